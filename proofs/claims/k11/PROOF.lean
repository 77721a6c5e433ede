import PyProof.Rows.All
import Wide.All
import OpenK.AllK
import Wide.FinOn
import HandS.ForMost
import HandS.IsInst
import HandS.Flow
import PyProof.ReprRoads
import HandS.Walk
import PySem.Challenge.RW_mergereach_k11_names_of_any_value
set_option Elab.async false
set_option linter.all false
set_option maxRecDepth 100000
namespace Kx
open PySem PySem.Spec PyProof.Rows L2

/-! ### repr of data, where nothing is being shown around -/
section
variable {X : Cx}
def rShow (K : PySem.W.Frag) : List V → Hp → VK → Prop := fun vs H Q =>
  ∃ (p : Addr) (d : PyData), vs = [V.ref p] ∧ Dp K H (.ref p) d ∧ d.showable = true ∧ d.hasDict = false ∧
    d.depth ≤ 40 ∧ d.shown.length ≤ sizeLine ∧ Q (.str d.shown) H
theorem call_show (gd : X.A.guards = some []) (un : X.A.units + 64 < cLine) :
    CallR X (.builtin "repr") (rShow X.K) := by
  intro pins s σ H xs us Q I rel want
  obtain ⟨p, d, rfl, dp, sh, nd, dep, len, q⟩ := want
  obtain ⟨u, rfl, ru⟩ := vals1 rel
  cases ru
  obtain ⟨as, rd⟩ := Dp.reads I d _ _ dp rfl
  refine repr_of_reads' rd sh (PyData.noDict_hsm nd) gd (by omega) (fun _ _ e => e) (fun h' u tk keep => ?_) len
  exact ⟨.str _, H, I.kept keep, ⟨_, rfl⟩, q⟩
end

/-! ### defs that are called where nothing is being shown -/
structure FnG (P : Program) (w : World) (K : PySem.W.Frag) (mg : Str → Option Value) (base : Heap)
    (CX : CXT) (k : Nat) (f : Addr) (fd : FuncData) (ps : List Str) (sp : Sp) : Prop where
  many : ∀ vs H Q E, sp vs H Q E → vs.length = ps.length
  goes : ∀ (A : Around) (outer : List Env) (s : Shared) (H : Hp) (args : Args) (us : List Value) (vs : List V) (Q : VK) (E : XK),
    A.guards = some [] → Room k A → Env0 P w K mg base A outer s H →
    BindsTo s fd args (ps.zip us) → Vals vs us → sp vs H Q E → codeAny (model P w) A (.call (.ref f) args) (CR CX outer P w H s Q E) s

section
variable {K : PySem.W.Frag} {mg : Str → Option Value} {P : Program} {base : Heap} {w : World}
theorem FnG.of {CX : CXT} {k : Nat} {f : Addr} {fd : FuncData} {ps : List Str} {sp : Sp}
    (F : FnOk P w K mg base CX k f fd ps sp) : FnG P w K mg base CX k f fd ps sp :=
  ⟨F.len, fun A outer s H args us vs Q E _ => F.run A outer s H args us vs Q E⟩

/-- a def's body keeps its promise, the guards known -/
theorem fnG_of {CX : CXT} {k : Nat} {f : Addr} {nm qual : Str} {prs : Arguments} {bd : List Stmt} {sc : Scope}
    {dV kV doc pm cdv ct oc : Value} {an od : Option Addr} {osl : Array (Option Value)} {N ps : List Str} {sp : Sp}
    (lk : K.lookup f = some ⟨oc, od, .func (PySem.W.fnOf nm qual prs bd sc dV kV doc pm an cdv ct), osl⟩)
    (cin : PySem.W.codeIn K cdv qual = true) (S : FnScope N ps sc)
    (many : ∀ vs H Q E, sp vs H Q E → vs.length = ps.length)
    (body : ∀ (A : Around) (outer : List Env) (s : Shared) (H : Hp) (vs : List V) (Q : VK) (E : XK),
      A.guards = some [] → Room k (A.deeper (envOfC qual sc s.heap.objs.size f cdv)) → sp vs H Q E →
      ∃ t, PSs (cxOf CX P w K mg base N qual sc f cdv A outer s H E) bd t ∧
        t { nx := fun _ H' => Q .non H', rt := Q } (start N vs) H) :
    FnG P w K mg base CX (k + 1) f (PySem.W.fnOf nm qual prs bd sc dV kV doc pm an cdv ct) ps sp := by
  refine ⟨many, fun A outer s H args us vs Q E gd room en bt rel want => ?_⟩
  have ln := many _ _ _ _ want
  have kin : K.In s.heap := en.mod.kin.keeps fun b o e => (en.bs b o e).1
  have nolim : s.heap.NoLimit := en.mod.nolimit.keeps fun b o e => (en.bs b o e).1
  have kinds : ∀ y ∈ ps.zip us, sc.names.lookup y.1 = some .local ∨
      (sc.names.lookup y.1 = some .cell ∧ ((cellsFrom (s.heap.objs.size + 1) sc.names []).lookup y.1).isSome = true) := by
    rintro ⟨n, v⟩ hy
    rcases S.par n (List.of_mem_zip hy).1 with z | z
    · exact .inl z
    · exact .inr ⟨z, PySem.W.cellsFrom_some _ _ _ (.inl z)⟩
  refine codeAny_call_function room.depth (kin _ _ lk) rfl S.co S.gen rfl (PySem.W.codeRec_of kin cin) (bt _ _ _ _ ?_)
  refine wpAny_newFunctionEnv_cells S.kind kinds fun env he s1 x => ?_
  subst he
  refine ⟨nolim.keeps x.toInCall.keep, codeAny_func ?_⟩
  obtain ⟨t, pt, pq⟩ := body A outer s H vs Q E gd (room.deeper _) want
  have I : Inv (cxOf CX P w K mg base N qual sc f cdv A outer s H E) [] (start N vs) H s1 := inv_start S room.hd en ln rel x
  refine wpAny_mono (pt.run [] s1 (start N vs) H _ I pq) (fun fl s' z => ?_) fun _ _ z => z
  cases fl with
  | ret u =>
    obtain ⟨v, σ', H', J, rv, q⟩ := z
    exact (⟨v, H', J.os, J.bare, J.base, J.hok, rv, q⟩ : CE outer P w H s Q u s')
  | next =>
    obtain ⟨σ', H', J, q⟩ := z
    exact (⟨V.non, H', J.os, J.bare, J.base, J.hok, rfl, q⟩ : CE outer P w H s Q Value.none s')
  | brk =>
    obtain ⟨_, _, _, no⟩ := z
    exact no.elim
  | cont =>
    obtain ⟨_, _, _, no⟩ := z
    exact no.elim

/-- a def from which no error goes out -/
theorem okG {x qual : Str} {st : Stmt} {f : Addr} {fd : FuncData} {N ps : List Str} {k : Nat} {sp : Sp} (F : Fun K x qual st f fd)
    (S : FnScope N ps (defScope st)) (many : ∀ vs H Q E, sp vs H Q E → vs.length = ps.length)
    (body : ∀ (cdv : Value) (A : Around) (outer : List Env) (s : Shared) (H : Hp) (vs : List V) (Q : VK) (E : XK),
      A.guards = some [] → Room k (A.deeper (envOfC qual (defScope st) s.heap.objs.size f cdv)) → sp vs H Q E →
      ∃ t, PSs (cxOf CX0 P w K mg base N qual (defScope st) f cdv A outer s H E).nox (defBody st) t ∧
        t { nx := fun _ H' => Q .non H', rt := Q } (start N vs) H) : FnG P w K mg base CX0 (k + 1) f fd ps sp := by
  obtain ⟨oc, od, kV, doc, pm, an, cdv, ct, osl, rfl, lk, cin⟩ := F.ex
  refine fnG_of lk cin S many fun A outer s H vs Q E gd room want => ?_
  obtain ⟨t, h, q⟩ := body cdv A outer s H vs Q E gd room want
  exact ⟨t, h.nox, q⟩
end

/-! ### calls of such defs -/
section
variable {X : Cx} {CX : CXT} {k : Nat} {f : Addr} {fd : FuncData} {ps : List Str} {sp : Sp} {dvs : List V} {ds : List Value} {E : XK}
  {x : Str} {p pos : Pos} {e : Expr} {es : List Expr} {t : TA}
theorem go_fnG {pins : List (Addr × Obj)} {σ : L2.St} {H : Hp} {s : Shared} {Q : VK} {us : List Value} {vs : List V}
    (F : FnG X.prog X.w X.K X.mg X.base CX k f fd ps sp) (gd : X.A.guards = some []) (room : Room k X.A)
    (hb : Binds X.K fd ps ds) (hd : Vals dvs ds) (hx : Passes CX X E)
    (I : Inv X pins σ H s) (rel : Vals vs us) (want : sp (vs ++ dvs) H Q E) : wpAny (model X.prog X.w) X.A (call (.ref f) us) (EP X pins σ Q) X.xe s := by
  have rel2 : Vals (vs ++ dvs) (us ++ ds) := rel.append hd
  have ln : (us ++ ds).length = ps.length := rel2.length.symm.trans (F.many _ _ _ _ want)
  have run := F.goes X.A X.stack s H ⟨us, []⟩ (us ++ ds) (vs ++ dvs) Q E gd room I.env0 (hb s us I.kIn ln) rel2 want
  refine wpAny_call (codeAny_mono run fun r s' got => ?_)
  match r, got with
  | .error e, got => exact hx pins σ H s e s' I got
  | .ok (.ret u), got => exact I.after got
theorem pe_callG (F : FnG X.prog X.w X.K X.mg X.base CX k f fd ps sp) (gd : X.A.guards = some []) (room : Room k X.A) (hg : Gl X x)
    (hm : X.mg x = some (.ref f)) (hk : PySem.W.keepIn X.K (.ref f) = true) (hb : Binds X.K fd ps ds) (hd : Vals dvs ds)
    (hx : Passes CX X E) (ha : PA X (e :: es) t) (hdb : (x == ("__debug__" : Str)) = false := by decide)
    (he : starEach (e :: es) X.env = (false, eval e X.env) :: starEach es X.env := by rfl)
    (hpl : (backTo pos (starEach es X.env)).any (·.1) = false := by rfl) : PE X (.Call (.Name x p) (e :: es) [] pos) (tCall sp dvs E t) := by
  refine ⟨fun pins s σ H Q I want => wpAny_Call_Name_kw (ld_glob I hg hm ?_ hdb)⟩
  refine PySem.W.callWith_K (h₀ := X.base) I.ok.mod.kin hk ?_ he hpl
  exact thn (ha.run pos pins s σ H _ I want) fun us s1 ⟨vs, H1, I1, rel, q⟩ => ⟨I1.kIn, go_fnG F gd room hb hd hx I1 rel q⟩

/-- f(k = v, ..) without positional arguments -/
theorem pe_callK0 {ks : List Str} {kws : List Keyword} {tk : TA} {g : List Value → List Value → List Value} {gV : List V → List V → List V}
    (F : FnOk X.prog X.w X.K X.mg X.base CX k f fd ps sp) (room : Room k X.A) (hg : Gl X x) (hm : X.mg x = some (.ref f))
    (hk : PySem.W.keepIn X.K (.ref f) = true) (hb : KBinds X.K fd ps ks g gV) (hx : Passes CX X E) (hkw : PK X kws tk)
    (hall : (backToKw pos (keywordEach kws X.env)).all (·.1.isSome) = true := by rfl)
    (hks : (backToKw pos (keywordEach kws X.env)).filterMap (·.1) = ks := by rfl)
    (hdb : (x == ("__debug__" : Str)) = false := by decide)
    (plain : ((backTo pos (starEach [] X.env)).any (·.1) || (backToKw pos (keywordEach kws X.env)).any (·.1.isNone)) = false := by rfl) : PE X (.Call (.Name x p) [] kws pos) (tCallK sp gV E tNil tk) := by
  refine ⟨fun pins s σ H Q I want => wpAny_Call_Name_kw (ld_glob I hg hm ?_ hdb)⟩
  refine PySem.W.callWith_KW0 (h₀ := X.base) I.ok.mod.kin hk hall ?_ plain
  refine thn (hkw.run pos pins s σ H _ I want) fun ws s2 ⟨zs, H2, I2, rz, q2⟩ => ⟨I2.kIn, ?_⟩
  rw [hks]
  exact run_fnk (us := []) (vs := []) F room hb hx I2 .nil rz q2
end

/-! ### the law's own call, at the place where it is called -/
section
variable {P : Program} {w : World} {K : PySem.W.Frag} {mg mb : Str → Option Value}
theorem law_callG {CX : CXT} {k : Nat} {fa a : Addr} {fd : FuncData} {x : Str} {sp : Sp} {s₁ : Shared} {vs : List Value} {ns : List Int}
    (KX : K.In s₁.heap) (gl : s₁.heap.Ns mainGlobals mg) (bl : s₁.heap.Ns builtinsNs mb)
    (boot : ∀ x : Str, x ≠ "__name__" → mb x = bootBuiltins x) (lim : s₁.heap.NoLimit) (hg : s₁.gens = #[])
    (ha : s₁.heap.get? a = some { cls := .type "list", data := .seq vs.toArray }) (hi : IntsAre vs ns) (hl : ns.length ≤ sizeLine)
    (room : Room k callerA)
    (F : ∀ base : Heap, K.In base → base.Ns mainGlobals mg → FnG P w K mg base CX k fa fd [x] sp)
    (bind : ∀ (s : Shared) (u : Value), BindsTo s fd ⟨[u], []⟩ [(x, u)])
    (want : ∀ H : Hp, Only H → SqL K H a (ns.map V.int) → sp [.ref a] H (fun v _ => v = .bl true) fun _ _ _ => False)
    (noX : ∀ H e s', CX [] H s₁ (fun _ _ _ => False) e s' → False) :
    codeAny (model P w) callerA (.call (.ref fa) ⟨[.ref a], []⟩)
      (fun r s' => r = .ok (.ret (.bool true)) ∧ OldK s₁.heap s'.heap ∧ s'.os = s₁.os ∧ AllBare s'.gens) s₁ := by
  have rv := vals_ints hi
  have ln := hi.length
  have main : ∀ H : Hp, Only H → SqL K H a (ns.map V.int) → HOk P w H s₁.heap → (∀ b, H b ≠ none → b = a) → (H a ≠ none → K.lookup a = none) →
      codeAny (model P w) callerA (.call (.ref fa) ⟨[.ref a], []⟩)
        (fun r s' => r = .ok (.ret (.bool true)) ∧ OldK s₁.heap s'.heap ∧ s'.os = s₁.os ∧ AllBare s'.gens) s₁ := by
    intro H only seq hok hA hK
    have stays : ∀ {b : Addr} {o : Obj}, s₁.heap.get? b = some o → H b = none → (hidT s₁.heap H).get? b = some o :=
      fun e n => hidT_get e n
    have notA : ∀ {b : Addr} {o : Obj} {es : Array DictEntry} {ep : Nat}, s₁.heap.get? b = some o → o.data = .dict es ep → H b = none := by
      intro b o es ep e dd
      refine Classical.byContradiction fun nn => ?_
      have ba := hA b nn
      subst ba
      rw [ha] at e
      cases e
      cases (show Data.seq vs.toArray _ = Data.dict es ep from dd)
    have nsK : ∀ {b : Addr} {m : Str → Option Value}, s₁.heap.Ns b m → (hidT s₁.heap H).Ns b m := by
      rintro b m ⟨o, es, ep, e, dd, r⟩
      exact ⟨o, es, ep, stays e (notA e dd), dd, r⟩
    have kb : K.In (hidT s₁.heap H) := by
      intro b o e
      refine stays (KX b o e) (Classical.byContradiction fun nn => ?_)
      have ba := hA b nn
      subst ba
      rw [hK nn] at e
      cases e
    have md : Mod K mg (hidT s₁.heap H) := by
      obtain ⟨mc, l1, l2⟩ := lim
      exact ⟨kb, nsK gl, ⟨mb, nsK bl, boot⟩, ⟨mc, nsK l1, l2⟩⟩
    have en : Env0 P w K mg (hidT s₁.heap H) callerA [] s₁ H :=
      { frames := rfl, mod := md, bs := fun b o e => of_hidT e, bsz := Nat.le_of_eq (hidT_size _ _), funs := trivial,
        frf := (fun b hb => nomatch (show b ∈ ([] : List Addr) from hb)), hok := hok, bare := .of_eq hg }
    have run := (F _ kb (nsK gl)).goes callerA [] s₁ H ⟨[.ref a], []⟩ [.ref a] [.ref a] _ _ rfl room en (bind s₁ (.ref a)) (.cons rfl .nil) (want H only seq)
    refine codeAny_mono run fun r s' got => ?_
    match r, got with
    | .error e, got => exact (noX H e s' got).elim
    | .ok (.ret u), got =>
      obtain ⟨v, H', os, bare, un, hok', r', q⟩ := got
      cases (show v = .bl true from q)
      cases (show u = Value.bool true from r')
      refine ⟨rfl, OldK.of_keep (fun b o e => ?_), os, bare⟩
      cases q : H b with
      | none => exact un.keep b o e q (fun z => nomatch (show b ∈ ([] : List Addr) from z)) (by simp)
      | some u =>
        rcases only b with z | ⟨ob, xs, z⟩
        · rw [q] at z
          cases z
        · obtain ⟨e1, _⟩ := hok b _ z
          obtain ⟨e2, _⟩ := hok' b _ (un.frzs b ob _ z)
          rw [e] at e1
          cases e1
          exact e2
  cases lk : K.lookup a with
  | some o =>
    have e := KX a o lk
    rw [ha] at e
    cases e
    refine main (fun _ => none) (fun _ => .inl rfl) (.inr ⟨_, vs.toArray, _, lk, rfl, rfl, rfl, ?_, ?_⟩) (fun b u z => nomatch (show (none : Option HO) = some u from z)) (fun b z => absurd rfl z) fun z => absurd rfl z
    · rw [List.size_toArray, ln]
      exact hl
    · simpa using rv
  | none =>
    have at_ : ∀ {b : Addr} {y : Option HO}, (if b = a then some (HO.frz { cls := .type "list", data := .seq vs.toArray } (.lst (ns.map V.int))) else none) = y →
        (b = a ∧ y = some (HO.frz { cls := .type "list", data := .seq vs.toArray } (.lst (ns.map V.int)))) ∨ (b ≠ a ∧ y = none) := by
      intro b y e
      by_cases c : b = a
      · rw [if_pos c] at e
        exact .inl ⟨c, e.symm⟩
      · rw [if_neg c] at e
        exact .inr ⟨c, e.symm⟩
    refine main (fun b => if b = a then some (.frz { cls := .type "list", data := .seq vs.toArray } (.lst (ns.map V.int))) else none) (fun b => ?_) (.inl (.inr ⟨_, if_pos rfl⟩)) (fun b u z => ?_) (fun b z => ?_) fun _ => lk
    · rcases at_ (b := b) rfl with ⟨_, e⟩ | ⟨_, e⟩
      · exact .inr ⟨_, _, e⟩
      · exact .inl e
    · rcases at_ z with ⟨c, e⟩ | ⟨_, e⟩
      · subst c
        cases e
        exact ⟨ha, (List.length_map ..).symm ▸ hl, vs, _, rv, ha⟩
      · cases e
    · rcases at_ (b := b) rfl with ⟨c, _⟩ | ⟨_, e⟩
      · exact c
      · exact absurd e z
end

/-- what k_head leaves, from the law's promise -/
theorem walk_G {l : PySem.W.OpenLaw} {n k : Nat} {q : Program} {loose : List Str} {XP : (Str → Option Value) → Heap → Prop}
    {YP : World → Heap → Prop} {d : DefRec} {K : Params → PySem.W.Frag} {CX : CXT} {sp : PySem.W.Frag → Sp} {x : Str}
    (hn : l.most = some n) (hn2 : n ≤ sizeLine) (hdf : d.params.defaults = []) (room : Room k callerA)
    (hY : ∀ (w : World) (hp : Heap), YP w hp → (K w.params).In hp)
    (F : ∀ (w : World) (mg : Str → Option Value) (fa : Addr) (hp : Heap), (K w.params).In hp → hp.Ns mainGlobals mg → mg d.name = some (.ref fa) → ∃ fd : FuncData,
      (∀ (sh : Shared) (u : Value), BindsTo sh fd ⟨[u], []⟩ [(x, u)]) ∧ ∀ base : Heap, (K w.params).In base → base.Ns mainGlobals mg → FnG l.prog w (K w.params) mg base CX k fa fd [x] (sp (K w.params)))
    (want : ∀ (K : PySem.W.Frag) (H : Hp) (a : Addr) (ns : List Int), ns.length ≤ n → Only H → SqL K H a (ns.map V.int) →
      sp K [.ref a] H (fun v _ => v = .bl true) fun _ _ _ => False)
    (noX : ∀ (H : Hp) (s : Shared) (e : Value) (s' : Shared), CX [] H s (fun _ _ _ => False) e s' → False) : PySem.W.WalkO q loose XP YP l.row.toRowW d [] (fun f vs => PySem.call f vs) := by
  refine Att.attach_call hn hdf fun w _ s₁ mg _ fa _ _ _ _ a vs ns G Y _ _ _ hmg hobj hints hlen hg => ?_
  obtain ⟨fd, hb, hF⟩ := F w mg fa _ (hY w _ Y) G.T.g hmg
  exact law_callG (hY w _ Y) G.T.g G.T.b G.T.builtins G.T.nolimit hg hobj hints (Nat.le_trans hlen hn2) room hF hb (fun H hO hS => want _ H a ns hlen hO hS) fun H e s' => noX H s₁ e s'
end Kx
set_option Elab.async false
set_option linter.all false
set_option maxRecDepth 100000
namespace K11
open PySem PySem.Spec PyProof.Rows L2 Kx
/-! ### the text -/
def topS (i : Nat) : Stmt := PySem.Challenge.pw_mergereach_k11_names_of_any_value.main.body.getD i (.Pass ⟨0, 0, 0, 0⟩)
abbrev sName : Stmt := topS 3
abbrev sPot : Stmt := topS 5
abbrev sDraw : Stmt := topS 6
abbrev sAny : Stmt := topS 7
abbrev sWord : Stmt := topS 8
abbrev sThing : Stmt := topS 9
abbrev sLaw : Stmt := topS 10
theorem scName : FnScope ["thing", "letter"] ["thing"] (defScope sName) := ⟨rfl, rfl, rfl, by decide +kernel, rfl, by decide +kernel, by decide +kernel⟩
theorem scWord : FnScope ["_law_item", "_law_sign"] ["_law_item"] (defScope sWord) := ⟨rfl, rfl, rfl, by decide +kernel, rfl, by decide +kernel, by decide +kernel⟩
theorem scPot : FnScope ["_law_script", "_law_k", "_law_digits"] ["_law_script", "_law_k"] (defScope sPot) := ⟨rfl, rfl, rfl, by decide +kernel, rfl, by decide +kernel, by decide +kernel⟩
theorem scDraw : FnScope ["_law_pot_here", "_law_many", "_law_digit"] ["_law_pot_here", "_law_many"] (defScope sDraw) := ⟨rfl, rfl, rfl, by decide +kernel, rfl, by decide +kernel, by decide +kernel⟩
theorem scAny : FnScope ["_law_pot_here", "_law_far", "_law_some"] ["_law_pot_here"] (defScope sAny) := ⟨rfl, rfl, rfl, by decide +kernel, rfl, by decide +kernel, by decide +kernel⟩
theorem scThing : FnScope ["_law_pot_here", "_law_letters", "_law_word", "_law_at", "_law_odd", "_law_k"] ["_law_pot_here"] (defScope sThing) := ⟨rfl, rfl, rfl, by decide +kernel, rfl, by decide +kernel, by decide +kernel⟩
theorem scLaw : FnScope ["_law_script", "_law_k", "_law_pot_here", "_law_turn", "_law_item", "_law_due", "_law_edges", "_law_word"] ["_law_script"] (defScope sLaw) := ⟨rfl, rfl, rfl, by decide +kernel, rfl, by decide +kernel, by decide +kernel⟩

/-! ### what stays -/
theorem same_new {H : Hp} {p : Addr} {o : HO} (h : H p = none) : Same H (upd H p o) := fun b x e => by
  rw [upd_ne (ne_of_none e h)]
  exact e
theorem same_at {H H' : Hp} {p : Addr} {o : HO} (h : H p = none) (s : Same H H') : Same H (upd H' p o) := fun b x e => by
  rw [upd_ne (ne_of_none e h)]
  exact s b x e

/-- a comprehension without a test keeps every item -/
theorem kept_yes {σ : L2.St} {H : Hp} {A B : Hp → Prop} (h : A H) : tYes σ H (fun b H3 => if b = true then A H3 else B H3) := by
  show (if true = true then A H else B H)
  rw [if_pos rfl]
  exact h

/-! ### a word of one to eight letters -/
abbrev abc : Str := "abcdefghijklmnopqrstuvwxyz"
def wordB : V → Bool
  | .str z => decide (1 ≤ (z.length : Int)) && (decide ((z.length : Int) ≤ 8) && z.cps.toList.all fun c => decide (c ∈ abc.cps.toList))
  | _ => false
/-- a value of which isinstance(.., str) is known -/
inductive Thing (K : PySem.W.Frag) (H : Hp) : V → Prop
  | str (z : Str) (h : z.length ≤ sizeLine) : Thing K H (.str z)
  | non : Thing K H .non
  | bl (b : Bool) : Thing K H (.bl b)
  | int (i : Int) : Thing K H (.int i)
  | lst {a : Addr} {xs : List V} (h : H a = some (.lst xs)) : Thing K H (.ref a)
  | tup {a : Addr} {xs : List V} (h : H a = some (.tup xs)) : Thing K H (.ref a)
  | dct {a : Addr} {kvs : List (Key × V)} (h : H a = some (.dK kvs)) : Thing K H (.ref a)
theorem Thing.same {K : PySem.W.Frag} {H H' : Hp} {v : V} (t : Thing K H v) (s : Same H H') : Thing K H' v := by
  cases t with
  | str z h => exact .str z h
  | non => exact .non
  | bl b => exact .bl b
  | int i => exact .int i
  | lst h => exact .lst (s _ _ h)
  | tup h => exact .tup (s _ _ h)
  | dct h => exact .dct (s _ _ h)
/-- its type, and whether that is str -/
def isStr : V → Bool
  | .str _ => true
  | _ => false
theorem Thing.ty {K : PySem.W.Frag} {H : Hp} {v : V} (t : Thing K H v) :
    ∃ u, TyX K H v u ∧ PySem.W.kitOne K u (.type "str") = some (isStr v) := by
  cases t with
  | str z h => exact ⟨_, .base (.str z), kit_ty (show kitB "str" "str" = some true by decide +kernel)⟩
  | non => exact ⟨_, .base .non, kit_ty (by decide +kernel)⟩
  | bl b => exact ⟨_, .base (.bl b), kit_ty (show kitB "bool" "str" = some false by decide +kernel)⟩
  | int i => exact ⟨_, .base (.int i), kit_ty (show kitB "int" "str" = some false by decide +kernel)⟩
  | lst h => exact ⟨_, .base (.lst h), kit_ty (show kitB "list" "str" = some false by decide +kernel)⟩
  | tup h => exact ⟨_, .base (.tup h), kit_ty (show kitB "tuple" "str" = some false by decide +kernel)⟩
  | dct h => exact ⟨_, .base (.dK h), kit_ty (show kitB "dict" "str" = some false by decide +kernel)⟩
theorem notStr {K : PySem.W.Frag} {H : Hp} {v : V} (t : Thing K H v) (h : isStr v = false) : wordB v = false := by
  cases v with
  | str z => cases h
  | _ => rfl

structure Tx (mg : Str → Option Value) : Prop where
  len : mg "len" = none
  isi : mg "isinstance" = none
  str : mg "str" = none
  all : mg "all" = none
  mx : mg "max" = none
  mn : mg "min" = none
  abs : mg "abs" = none
  dm : mg "divmod" = none
  rng : mg "range" = none
  rpr : mg "repr" = none
  let_ : ∃ t, mg "LETTERS" = some (.str abc t)
  most : ∃ t, mg "MOST_LETTERS" = some (.int 8 t)

section
variable {K : PySem.W.Frag} {mg : Str → Option Value} {P : Program} {base : Heap} {w : World}

def spName (K : PySem.W.Frag) : Sp := fun vs H Q _ => ∃ v, vs = [v] ∧ Thing K H v ∧ ∀ H', Same H H' → Q (.bl (wordB v)) H'

theorem all_take {l : List Nat} {f : Nat → Bool} : ((l.map f).map V.bl) = (l.map fun c => V.bl (f c)) := by
  rw [List.map_map]
  rfl
theorem take_next {z : Str} {i c : Nat} (h : z.cps[i]? = some c) (f : Nat → V) : ((z.cps.toList.take i).map f) ++ [f c] = (z.cps.toList.take (i + 1)).map f := by
  rw [List.take_add_one, show z.cps.toList[i]? = some c by rw [Array.getElem?_toList]; exact h, List.map_append]
  rfl

theorem ok_name {f : Addr} {fd : FuncData} {k : Nat} (F : Fun K "is_name" "is_name" sName f fd) (T : Tx mg) :
    FnOk P w K mg base CX0 (k + 1) f fd ["thing"] (spName K) := by
  refine F.ok scName (fun vs H Q E h => ?_) (fun cdv A outer s H vs Q E hr h => ?_)
  · obtain ⟨v, rfl, _⟩ := h
    rfl
  · obtain ⟨v, rfl, tv, q⟩ := h
    obtain ⟨tl, hl⟩ := T.let_
    obtain ⟨tm, hm⟩ := T.most
    refine ⟨_, pss_cons (ps_if (pt_not (pt_val (pe_callB call_isi (by rfl) T.isi (by decide +kernel) (pa_cons (pv 0) (pa_cons (pe_bltn (v := .ty "str") (by rfl) T.str (by decide +kernel) rfl) pa_nil)))))
        (pss_one (ps_ret pe_bl)) pss_nil)
      (pss_one (ps_ret (pe_and (pe_chain op_le op_le pe_int (pe_callB call_len_str (by rfl) T.len PySem.boot_len (pa_cons (pv 0) pa_nil)) (pe_glob (v := .int 8) (by rfl) hm ⟨_, rfl⟩))
        (pe_one (pe_callB (cr_all rfl) (by rfl) T.all (by decide +kernel) (pa_cons
          (pe_lc (own := [("letter", 1)]) (g := gName 1) (tt := tYes) rfl scName.nd (pi_str (pv 0)) (blkOk_by (N := ["thing", "letter"]) (sc := defScope sName) (by decide +kernel))
            (fun _ _ _ _ _ => pg_name (i := 1) scName.nd rfl (Or.inl rfl)) (fun _ _ _ _ _ => pts_nil)
            (fun _ _ _ _ _ => pe_cmpR op_in_sign (pv 1) (pe_glob (v := .str abc) (by rfl) hl ⟨_, rfl⟩) rfl)) pa_nil)))))), ?_⟩
    obtain ⟨u, ty, ko⟩ := tv.ty
    refine ⟨v, rfl, v, .ty "str", u, .type "str", isStr v, rfl, .ty "str", ty, ko, isStr v, rfl, ?_⟩
    cases hs : isStr v with
    | false =>
      refine iteT ?_
      have := q H fun _ _ e => e
      rw [notStr tv hs] at this
      exact this
    | true =>
      refine iteF ?_
      cases tv with
      | str z hz =>
        -- 1 <= len(thing) <= MOST_LETTERS
        have same0 : Same H H := fun _ _ e => e
        refine ⟨.str z, rfl, z, rfl, hz, 1, z.length, rfl, rfl, _, rfl, ?_⟩
        by_cases c1 : (1 : Int) ≤ z.length
        · rw [decide_eq_true c1]
          refine iteT ⟨_, _, rfl, rfl, _, rfl, ?_⟩
          by_cases c2 : (z.length : Int) ≤ 8
          · rw [decide_eq_true c2]
            refine iteT ⟨.str z, rfl, z, rfl, fun D nD => ?_⟩
            refine lc_it walk_str (fun i H2 => Same H H2 ∧ H2 D = some (.lst ((z.cps.toList.take i).map fun c => V.bl (decide (c ∈ abc.cps.toList)))))
              ⟨same_new nD, upd_same⟩ (fun _ _ _ _ => trivial) (fun i x H2 H3 hi pv y => ?_) (fun H2 pv => ?_)
            · obtain ⟨rfl, c, hc, rfl⟩ := y
              obtain ⟨sm, eD⟩ := pv
              refine ⟨rfl, ?_⟩
              refine kept_yes ?_
              refine ⟨_, rfl, c, abc, rfl, rfl, _, eD, ?_, same_at nD sm, ?_⟩
              · rw [List.length_map, List.length_take]
                have : z.cps.toList.length = z.length := by rw [Array.length_toList]; rfl
                have hi' : i < z.cps.size := hi
                have e2 : z.cps.size = z.length := rfl
                omega
              · rw [upd_same, take_next hc]
            · obtain ⟨sm, eD⟩ := pv
              have e : z.cps.toList.take z.cps.size = z.cps.toList := List.take_of_length_le (by rw [Array.length_toList]; exact Nat.le_refl _)
              rw [e] at eD
              refine ⟨D, z.cps.toList.map fun c => decide (c ∈ abc.cps.toList), rfl, ?_, ?_⟩
              · rw [all_take]
                exact .inl (.inl eD)
              · have := q H2 sm
                simp only [wordB, decide_eq_true c1, decide_eq_true c2, Bool.true_and] at this
                rw [List.all_map]
                exact this
          · rw [decide_eq_false c2]
            refine iteF ?_
            have := q H same0
            simp only [wordB, decide_eq_false c2, Bool.false_and, Bool.and_false] at this
            exact this
        · rw [decide_eq_false c1]
          refine iteF ⟨_, rfl, iteF ?_⟩
          have := q H same0
          simp only [wordB, decide_eq_false c1, Bool.false_and] at this
          exact this
      | _ => cases hs

theorem ok_word {f : Addr} {fd : FuncData} {k : Nat} (F : Fun K "_law_is_word" "_law_is_word" sWord f fd) (T : Tx mg) :
    FnOk P w K mg base CX0 (k + 1) f fd ["_law_item"] (spName K) := by
  refine F.ok scWord (fun vs H Q E h => ?_) (fun cdv A outer s H vs Q E hr h => ?_)
  · obtain ⟨v, rfl, _⟩ := h
    rfl
  · obtain ⟨v, rfl, tv, q⟩ := h
    refine ⟨_, pss_cons (ps_if (PW.pt (pw_or (pt_not (pt_val (pe_callB call_isi (by rfl) T.isi (by decide +kernel) (pa_cons (pv 0) (pa_cons (pe_bltn (v := .ty "str") (by rfl) T.str (by decide +kernel) rfl) pa_nil)))))
          (pw_or1 (pt_not (pt_chain op_le op_le pe_int (pe_callB call_len_str (by rfl) T.len PySem.boot_len (pa_cons (pv 0) pa_nil)) pe_int)))))
        (pss_one (ps_ret pe_bl)) pss_nil)
      (pss_one (ps_ret (pe_callB (cr_all rfl) (by rfl) T.all (by decide +kernel) (pa_cons
          (pe_lc (own := [("_law_sign", 1)]) (g := gName 1) (tt := tYes) rfl scWord.nd (pi_str (pv 0)) (blkOk_by (N := ["_law_item", "_law_sign"]) (sc := defScope sWord) (by decide +kernel))
            (fun _ _ _ _ _ => pg_name (i := 1) scWord.nd rfl (Or.inl rfl)) (fun _ _ _ _ _ => pts_nil)
            (fun _ _ _ _ _ => pe_cmpR op_in_sign (pv 1) pe_str rfl)) pa_nil)))), ?_⟩
    obtain ⟨u, ty, ko⟩ := tv.ty
    refine ⟨v, rfl, v, .ty "str", u, .type "str", isStr v, rfl, .ty "str", ty, ko, isStr v, rfl, ?_⟩
    cases hs : isStr v with
    | false =>
      refine iteT ?_
      have := q H fun _ _ e => e
      rw [notStr tv hs] at this
      exact iteT this
    | true =>
      refine iteF ?_
      cases tv with
      | str z hz =>
        have same0 : Same H H := fun _ _ e => e
        refine ⟨.str z, rfl, z, rfl, hz, 1, z.length, rfl, rfl, _, rfl, ?_⟩
        by_cases c1 : (1 : Int) ≤ z.length
        · rw [decide_eq_true c1]
          refine iteT ⟨_, _, rfl, rfl, _, rfl, ?_⟩
          by_cases c2 : (z.length : Int) ≤ 8
          · rw [decide_eq_true c2]
            refine iteF ⟨.str z, rfl, z, rfl, fun D nD => ?_⟩
            refine lc_it walk_str (fun i H2 => Same H H2 ∧ H2 D = some (.lst ((z.cps.toList.take i).map fun c => V.bl (decide (c ∈ abc.cps.toList)))))
              ⟨same_new nD, upd_same⟩ (fun _ _ _ _ => trivial) (fun i x H2 H3 hi pv y => ?_) (fun H2 pv => ?_)
            · obtain ⟨rfl, c, hc, rfl⟩ := y
              obtain ⟨sm, eD⟩ := pv
              refine ⟨rfl, ?_⟩
              refine kept_yes ?_
              refine ⟨_, rfl, c, abc, rfl, rfl, _, eD, ?_, same_at nD sm, ?_⟩
              · rw [List.length_map, List.length_take]
                have : z.cps.toList.length = z.length := by rw [Array.length_toList]; rfl
                have hi' : i < z.cps.size := hi
                have e2 : z.cps.size = z.length := rfl
                omega
              · rw [upd_same, take_next hc]
            · obtain ⟨sm, eD⟩ := pv
              have e : z.cps.toList.take z.cps.size = z.cps.toList := List.take_of_length_le (by rw [Array.length_toList]; exact Nat.le_refl _)
              rw [e] at eD
              refine ⟨D, z.cps.toList.map fun c => decide (c ∈ abc.cps.toList), rfl, ?_, ?_⟩
              · rw [all_take]
                exact .inl (.inl eD)
              · have := q H2 sm
                simp only [wordB, decide_eq_true c1, decide_eq_true c2, Bool.true_and] at this
                rw [List.all_map]
                exact this
          · rw [decide_eq_false c2]
            refine iteT ?_
            have := q H same0
            simp only [wordB, decide_eq_false c2, Bool.false_and, Bool.and_false] at this
            exact this
        · rw [decide_eq_false c1]
          refine iteF ⟨_, rfl, iteT ?_⟩
          have := q H same0
          simp only [wordB, decide_eq_false c1, Bool.false_and] at this
          exact this
      | _ => cases hs

/-! ### the pot of draws -/
def Pot (H : Hp) (p : Addr) : Prop := ∃ x y : Int, 0 ≤ x ∧ 0 ≤ y ∧ y < 2147483647 ∧ H p = some (.lst [.int x, .int y])
/-- all but p stays -/
def But (p : Addr) (H H' : Hp) : Prop := ∀ b o, b ≠ p → H b = some o → H' b = some o
theorem But.refl {p : Addr} {H : Hp} : But p H H := fun _ _ _ e => e
theorem But.trans {p : Addr} {H H1 H2 : Hp} (a : But p H H1) (b : But p H1 H2) : But p H H2 := fun c o n e => b c o n (a c o n e)
theorem But.put {p : Addr} {H H1 : Hp} {o : HO} (a : But p H H1) : But p H (upd H1 p o) := fun b x n e => by
  rw [upd_ne n]
  exact a b x n e
theorem But.new {p q : Addr} {H H1 : Hp} {o : HO} (a : But p H H1) (n : H1 q = none) : But p H (upd H1 q o) := fun b x nb e => by
  rw [upd_ne (ne_of_none (a b x nb e) n)]
  exact a b x nb e
theorem Same.but {p : Addr} {H H' : Hp} (s : Same H H') : But p H H' := fun b o _ e => s b o e
theorem same_but {p : Addr} {H0 H H' : Hp} (s : Same H0 H) (n : H0 p = none) (b : But p H H') : Same H0 H' :=
  fun c o e => b c o (ne_of_none e n) (s c o e)

def spPot (K : PySem.W.Frag) : Sp := fun vs H Q _ => ∃ (a : Addr) (ns : List Int) (k : Nat), vs = [.ref a, .int k] ∧ SqL K H a (ns.map V.int) ∧ k < 100 ∧
  ∀ H' p, Same H H' → H p = none → Pot H' p → Q (.ref p) H'
theorem ok_pot {f : Addr} {fd : FuncData} {k : Nat} (F : Fun K "_law_pot" "_law_pot" sPot f fd) (T : Tx mg) :
    FnOk P w K mg base CX0 (k + 1) f fd ["_law_script", "_law_k"] (spPot K) := by
  refine F.ok scPot (fun vs H Q E h => ?_) (fun cdv A outer s H vs Q E hr h => ?_)
  · obtain ⟨a, ns, k, rfl, _⟩ := h
    rfl
  · obtain ⟨a, ns, k, rfl, hS, hk, q⟩ := h
    refine ⟨_, pss_cons (ps_set (i := 2) scPot.nd rfl (.inl rfl) (pe_ifExp (pt_cmpR op_lt (pv 1) (pe_callB call_len_seq (by rfl) T.len PySem.boot_len (pa_cons (pv 0) pa_nil)) (nomark _))
          (pe_ix ix_list (pv 0) (pv 1) (fun _ _ => rfl)) pe_int))
      (pss_one (ps_ret (pe_lst (pa_cons (pe_callB (call_max2 rfl) (by rfl) T.mx (by decide +kernel) (pa_cons pe_int (pa_cons (pe_op op_sub (pe_callB call_abs (by rfl) T.abs (by decide +kernel) (pa_cons (pv 2) pa_nil)) (pe_op op_pow pe_int pe_int)) pa_nil)))
        (pa_cons (pe_op op_mod (pe_op op_add (pe_op op_add (pe_op op_mul (pe_op op_mod (pe_callB call_abs (by rfl) T.abs (by decide +kernel) (pa_cons (pv 2) pa_nil)) pe_int) pe_int) (pe_op op_mul pe_int (pv 1))) pe_int) pe_int) pa_nil))))), ?_⟩
    refine ⟨.int k, rfl, .ref a, rfl, a, _, rfl, .inl hS, _, _, rfl, rfl, _, rfl, ?_⟩
    have tail : ∀ x y : Int, 0 ≤ x → 0 ≤ y → y < 2147483647 → ∀ p, H p = none → Q (.ref p) (upd H p (.lst [.int x, .int y])) :=
      fun x y h1 h2 h3 p np => q _ p (same_new np) np ⟨x, y, h1, h2, h3, upd_same⟩
    have fin : ∀ d : Int, 0 ≤ (if d < 0 then -d else d) := fun d => by split <;> omega
    have two : 2 ≤ sizeLine := by decide
    by_cases c : (k : Int) < ((ns.map V.int).length : Int)
    · have hk2 : k < ns.length := by
        rw [List.length_map] at c
        omega
      rw [decide_eq_true c]
      refine iteT ⟨.ref a, rfl, .int k, rfl, a, _, k, .int ns[k], rfl, rfl, hS, atI_nat (by rw [List.getElem?_map, List.getElem?_eq_getElem hk2]; rfl), ?_⟩
      generalize ns[k] = d
      refine ⟨.int d, rfl, d, rfl, 10, 18, rfl, rfl, ⟨by decide, by decide, by decide⟩, _, _, rfl, rfl, 0, _, rfl, .int d, rfl, d, rfl, _, _, rfl, rfl, (by show (0 : Int) < 2147483587; decide), _, _, rfl, rfl, .inr ⟨by decide, by decide⟩,
        .int k, rfl, _, _, rfl, rfl, .inl ⟨by decide, by decide⟩, _, _, rfl, rfl, _, _, rfl, rfl, _, _, rfl, rfl, (by show (0 : Int) < 2147483647; decide), two, tail _ _ ?_ ?_ ?_⟩
      · split <;> omega
      · exact Int.emod_nonneg _ (by decide)
      · exact Int.emod_lt_of_pos _ (by decide)
    · rw [decide_eq_false c]
      refine iteF ?_
      refine ⟨.int 0, rfl, 0, rfl, 10, 18, rfl, rfl, ⟨by decide, by decide, by decide⟩, _, _, rfl, rfl, 0, _, rfl, .int 0, rfl, 0, rfl, _, _, rfl, rfl, (by show (0 : Int) < 2147483587; decide), _, _, rfl, rfl, .inr ⟨by decide, by decide⟩,
        .int k, rfl, _, _, rfl, rfl, .inl ⟨by decide, by decide⟩, _, _, rfl, rfl, _, _, rfl, rfl, _, _, rfl, rfl, (by show (0 : Int) < 2147483647; decide), two, tail _ _ ?_ ?_ ?_⟩
      · split <;> omega
      · exact Int.emod_nonneg _ (by decide)
      · exact Int.emod_lt_of_pos _ (by decide)

def spDraw : Sp := fun vs H Q _ => ∃ (p : Addr) (m : Int), vs = [.ref p, .int m] ∧ Pot H p ∧ 0 < m ∧ m < 1073741824 ∧
  ∀ H' d, But p H H' → Pot H' p → 0 ≤ d → d < m → Q (.int d) H'
theorem ok_draw {f : Addr} {fd : FuncData} {k : Nat} (F : Fun K "_law_draw" "_law_draw" sDraw f fd) (T : Tx mg) :
    FnOk P w K mg base CX0 (k + 1) f fd ["_law_pot_here", "_law_many"] spDraw := by
  refine F.ok scDraw (fun vs H Q E h => ?_) (fun cdv A outer s H vs Q E hr h => ?_)
  · obtain ⟨p, m, rfl, _⟩ := h
    rfl
  · obtain ⟨p, m, rfl, ⟨x, y, hx, hy, hy2, hp⟩, m0, m1, q⟩ := h
    refine ⟨_, pss_cons (ps_if (pt_cmpR op_gt (pe_ix ix_list (pv 0) pe_int (fun _ _ => rfl)) pe_int (nomark _))
        (pss_cons (ps_asg (pe_callB call_divmod (by rfl) T.dm (by decide +kernel) (pa_cons (pe_ix ix_list (pv 0) pe_int (fun _ _ => rfl)) (pa_cons (pv 1) pa_nil)))
            (pg_tup rfl (pgs_cons (pg_sub (pv 0) pe_int set_list) (pgs_cons (pg_name (i := 2) scDraw.nd rfl (.inl rfl)) pgs_nil))))
          (pss_one (ps_ret (pv 2)))) pss_nil)
      (pss_cons (ps_asg (pe_op op_mod (pe_op op_add (pe_op op_mul (pe_ix ix_list (pv 0) pe_int (fun _ _ => rfl)) pe_int) pe_int) pe_int) (pg_sub (pv 0) pe_int set_list))
      (pss_one (ps_ret (pe_op op_mod (pe_op op_fdiv (pe_op op_mod (pe_op op_mul (pe_ix ix_list (pv 0) pe_int (fun _ _ => rfl)) (pe_ix ix_list (pv 0) pe_int (fun _ _ => rfl))) pe_int) pe_int) (pv 1))))), ?_⟩
    have sq : SqL K H p [.int x, .int y] := .inl (.inl hp)
    refine ⟨.ref p, rfl, p, _, 0, .int x, rfl, rfl, sq, atI_nat (j := 0) rfl, x, 0, rfl, rfl, _, rfl, ?_⟩
    by_cases c : x > 0
    · rw [decide_eq_true c]
      refine iteT ⟨.ref p, rfl, p, _, 0, .int x, rfl, rfl, sq, atI_nat (j := 0) rfl, .int m, rfl, x, m, rfl, ⟨m0, m1⟩, fun T nT => ?_⟩
      have npT : p ≠ T := ne_of_none hp nT
      have hp2 : (upd H T (.tup [.int (x / m), .int (x % m)])) p = some (.lst [.int x, .int y]) := by
        rw [upd_ne npT]
        exact hp
      refine ⟨T, [.int (x / m), .int (x % m)], rfl, .inl (.inl upd_same), rfl, .int (x / m), [.int (x % m)], rfl, .ref p, rfl, p, _, 0, 0, rfl, rfl, hp2, rfl, .int (x % m), [], rfl, rfl, .int (x % m), rfl, ?_⟩
      exact q _ _ (But.put (But.new But.refl nT)) ⟨x / m, y, Int.ediv_nonneg hx (Int.le_of_lt m0), hy, hy2, upd_same⟩ (Int.emod_nonneg _ (by omega)) (Int.emod_lt_of_pos _ m0)
    · rw [decide_eq_false c]
      refine iteF ?_
      have hy3 := Int.emod_nonneg (y * 39373 + 12227) (b := 2147483629) (by decide)
      have hy4 := Int.emod_lt_of_pos (y * 39373 + 12227) (b := 2147483629) (by decide)
      refine ⟨.ref p, rfl, p, _, 1, .int y, rfl, rfl, sq, atI_nat (j := 1) rfl, _, _, rfl, rfl, .inr ⟨by decide, by decide⟩, _, _, rfl, rfl, _, _, rfl, rfl, (by show (0 : Int) < 2147483629; decide),
        .ref p, rfl, p, _, 1, 1, rfl, rfl, hp, rfl, ?_⟩
      have sq2 : SqL K (upd H p (.lst ([.int x, .int y].set 1 (.int ((y * 39373 + 12227) % 2147483629))))) p [.int x, .int ((y * 39373 + 12227) % 2147483629)] := .inl (.inl upd_same)
      refine ⟨.ref p, rfl, p, _, 1, .int ((y * 39373 + 12227) % 2147483629), rfl, rfl, sq2, atI_nat (j := 1) rfl, .ref p, rfl, p, _, 1, .int ((y * 39373 + 12227) % 2147483629), rfl, rfl, sq2, atI_nat (j := 1) rfl, _, _, rfl, rfl, .inl ⟨by omega, by omega⟩, _, _, rfl, rfl, (by show (0 : Int) < 2147483563; decide),
        _, _, rfl, rfl, ⟨by decide, by decide⟩, .int m, rfl, _, _, rfl, rfl, m0, ?_⟩
      exact q _ _ (But.put But.refl) ⟨x, ((y * 39373 + 12227) % 2147483629), hx, hy3, by omega, upd_same⟩ (Int.emod_nonneg _ (by omega)) (Int.emod_lt_of_pos _ m0)
end
end K11
set_option Elab.async false
set_option linter.all false
set_option maxRecDepth 100000
namespace K11
open PySem PySem.Spec PyProof.Rows L2 Kx
section
variable {K : PySem.W.Frag} {mg : Str → Option Value} {P : Program} {base : Heap} {w : World}
theorem at_in {xs : List V} {i : Int} (h0 : 0 ≤ i) (h1 : i < xs.length) : ∃ v ∈ xs, atI xs i = some v := by
  obtain ⟨n, rfl⟩ : ∃ n : Nat, i = n := ⟨i.toNat, by omega⟩
  have hn : n < xs.length := by omega
  exact ⟨xs[n], List.getElem_mem hn, atI_nat (List.getElem?_eq_getElem hn)⟩

/-! ### any value -/
def spAny (K : PySem.W.Frag) : Sp := fun vs H Q _ => ∃ p : Addr, vs = [.ref p] ∧ Pot H p ∧ ∀ H' v, But p H H' → Pot H' p → Thing K H' v → v ≠ .ref p → Q v H'
theorem Pot.new {H : Hp} {p q : Addr} {o : HO} (h : Pot H p) (n : H q = none) : Pot (upd H q o) p := by
  obtain ⟨x, y, h1, h2, h3, e⟩ := h
  exact ⟨x, y, h1, h2, h3, same_new n _ _ e⟩
theorem Thing.but {K : PySem.W.Frag} {H H' : Hp} {p : Addr} {v : V} (t : Thing K H v) (n : v ≠ .ref p) (s : But p H H') : Thing K H' v := by
  cases t with
  | str z h => exact .str z h
  | non => exact .non
  | bl b => exact .bl b
  | int i => exact .int i
  | lst h => exact .lst (s _ _ (fun e => n (by rw [e])) h)
  | tup h => exact .tup (s _ _ (fun e => n (by rw [e])) h)
  | dct h => exact .dct (s _ _ (fun e => n (by rw [e])) h)
theorem ok_any {f fD : Addr} {fd fdD : FuncData} {k : Nat} (F : Fun K "_law_any_thing" "_law_any_thing" sAny f fd) (FD : Fun K "_law_draw" "_law_draw" sDraw fD fdD)
    (bD : Binds K fdD ["_law_pot_here", "_law_many"] []) (gD : mg "_law_draw" = some (.ref fD)) (T : Tx mg) :
    FnOk P w K mg base CX0 (k + 2) f fd ["_law_pot_here"] (spAny K) := by
  have GD : FnOk P w K mg base CX0 (k + 1) fD fdD ["_law_pot_here", "_law_many"] spDraw := ok_draw FD T
  refine F.ok scAny (fun vs H Q E h => ?_) (fun cdv A outer s H vs Q E hr h => ?_)
  · obtain ⟨p, rfl, _⟩ := h
    rfl
  · obtain ⟨p, rfl, hp, q⟩ := h
    refine ⟨_, pss_cons (ps_set (i := 1) scAny.nd rfl (.inl rfl) (pe_op op_add (pe_op op_pow pe_int pe_int) (pe_call GD hr (by rfl) gD FD.kp bD .nil pass0 (pa_cons (pv 0) (pa_cons (pe_op op_pow pe_int pe_int) pa_nil)))))
      (pss_cons (ps_set (i := 2) scAny.nd rfl (.inl rfl) (pe_lst (pa_cons pe_non (pa_cons pe_bl (pa_cons pe_bl (pa_cons (pe_un un_neg pe_int) (pa_cons pe_int (pa_cons pe_int (pa_cons (pv 1) (pa_cons (pe_un un_neg (pv 1))
        (pa_cons pe_str (pa_cons pe_str (pa_cons pe_str (pa_cons pe_str (pa_cons (pe_tup pa_nil) (pa_cons (pe_lst pa_nil) (pa_cons pe_dnewK (pa_cons (pe_lst (pa_cons pe_int pa_nil)) (pa_cons (pe_tup (pa_cons pe_int pa_nil))
        (pa_cons (pe_disp (pps_cons pe_int pe_int pps_nil) (by rfl) (by rfl) (fun z => by cases z) (by decide)) (pa_cons (pe_tup (pa_cons pe_str pa_nil)) pa_nil)))))))))))))))))))))
      (pss_one (ps_ret (pe_ix ix_list (pv 2) (pe_call GD hr (by rfl) gD FD.kp bD .nil pass0 (pa_cons (pv 0) (pa_cons (pe_callB call_len_seq (by rfl) T.len PySem.boot_len (pa_cons (pv 2) pa_nil)) pa_nil))) (fun _ _ => rfl))))), ?_⟩
    refine ⟨10, 20, rfl, rfl, ⟨by decide, by decide, by decide⟩, .ref p, rfl, 10, 9, rfl, rfl, ⟨by decide, by decide, by decide⟩, p, 10 ^ 9, rfl, hp, by decide, by decide, fun H1 d b1 hp1 d0 d1 => ?_⟩
    refine ⟨_, _, rfl, rfl, ?_⟩
    have z0 : 0 ≤ sizeLine := Nat.zero_le _
    have z1 : 1 ≤ sizeLine := by decide
    have z19 : 19 ≤ sizeLine := by decide
    refine ⟨1, rfl, .int (10 ^ 20 + d), rfl, .int (10 ^ 20 + d), rfl, 10 ^ 20 + d, rfl, z0, fun t1 n1 => ?_⟩
    refine ⟨z0, fun t2 n2 => fun t3 n3 => ⟨z1, fun t4 n4 => ⟨z1, fun t5 n5 => fun t6 n6 => ?_⟩⟩⟩
    refine ⟨upd_same, [(.inl 1, .int 2)], rfl, by decide, z1, fun t7 n7 => ⟨z19, fun l nl => ?_⟩⟩
    have s1 : Same H1 (upd H1 t1 (HO.tup [])) := same_new n1
    have a1 : (upd H1 t1 (HO.tup [])) t1 = some (HO.tup []) := upd_same
    generalize upd H1 t1 (HO.tup []) = H2 at *
    have s2 : Same H2 (upd H2 t2 (HO.lst [])) := same_new n2
    have a2 : (upd H2 t2 (HO.lst [])) t2 = some (HO.lst []) := upd_same
    generalize upd H2 t2 (HO.lst []) = H3 at *
    have s3 : Same H3 (upd H3 t3 (HO.dK [])) := same_new n3
    have a3 : (upd H3 t3 (HO.dK [])) t3 = some (HO.dK []) := upd_same
    generalize upd H3 t3 (HO.dK []) = H4 at *
    have s4 : Same H4 (upd H4 t4 (HO.lst [V.int 0])) := same_new n4
    have a4 : (upd H4 t4 (HO.lst [V.int 0])) t4 = some (HO.lst [V.int 0]) := upd_same
    generalize upd H4 t4 (HO.lst [V.int 0]) = H5 at *
    have s5 : Same H5 (upd H5 t5 (HO.tup [V.int 1])) := same_new n5
    have a5 : (upd H5 t5 (HO.tup [V.int 1])) t5 = some (HO.tup [V.int 1]) := upd_same
    generalize upd H5 t5 (HO.tup [V.int 1]) = H6 at *
    have s6 : Same H6 (upd (upd H6 t6 (HO.dK [])) t6 (HO.dK (mergeK [] [(Sum.inl 1, V.int 2)]))) := same_at n6 (same_new n6)
    have a6 : (upd (upd H6 t6 (HO.dK [])) t6 (HO.dK (mergeK [] [(Sum.inl 1, V.int 2)]))) t6 = some (HO.dK (mergeK [] [(Sum.inl 1, V.int 2)])) := upd_same
    generalize upd (upd H6 t6 (HO.dK [])) t6 (HO.dK (mergeK [] [(Sum.inl 1, V.int 2)])) = H7 at *
    have s7 : Same H7 (upd H7 t7 (HO.tup [V.str "a"])) := same_new n7
    have a7 : (upd H7 t7 (HO.tup [V.str "a"])) t7 = some (HO.tup [V.str "a"]) := upd_same
    generalize upd H7 t7 (HO.tup [V.str "a"]) = H8 at *
    obtain ⟨items, ei⟩ : ∃ xs : List V, xs = [.non, .bl true, .bl false, .int (-1), .int 0, .int 1, .int (10 ^ 20 + d), .int (-(10 ^ 20 + d)), .str "", .str "A", .str "a b", .str "ninesigns",
      .ref t1, .ref t2, .ref t3, .ref t4, .ref t5, .ref t6, .ref t7] := ⟨_, rfl⟩
    have l19 : items.length = 19 := by rw [ei]; rfl
    have s18 : Same H1 H8 := ((((((s1.trans s2).trans s3).trans s4).trans s5).trans s6).trans s7)
    have all : ∀ v ∈ items, Thing K H8 v ∧ v ≠ .ref p := by
      obtain ⟨x, y, _, _, _, ep⟩ := hp1
      have np : ∀ {Hh : Hp} {t : Addr}, Same H1 Hh → Hh t = none → (V.ref t : V) ≠ .ref p := fun sm n e => by
        cases e
        rw [sm _ _ ep] at n
        cases n
      rw [ei]
      simp only [List.forall_mem_cons]
      refine ⟨⟨.non, nofun⟩, ⟨.bl _, nofun⟩, ⟨.bl _, nofun⟩, ⟨.int _, nofun⟩, ⟨.int _, nofun⟩, ⟨.int _, nofun⟩, ⟨.int _, nofun⟩, ⟨.int _, nofun⟩,
        ⟨.str _ (by decide), nofun⟩, ⟨.str _ (by decide), nofun⟩, ⟨.str _ (by decide), nofun⟩, ⟨.str _ (by decide), nofun⟩,
        ⟨.tup ((((((s2.trans s3).trans s4).trans s5).trans s6).trans s7) _ _ a1), np (fun _ _ e => e) n1⟩,
        ⟨.lst (((((s3.trans s4).trans s5).trans s6).trans s7) _ _ a2), np s1 n2⟩,
        ⟨.dct ((((s4.trans s5).trans s6).trans s7) _ _ a3), np (s1.trans s2) n3⟩,
        ⟨.lst (((s5.trans s6).trans s7) _ _ a4), np ((s1.trans s2).trans s3) n4⟩,
        ⟨.tup ((s6.trans s7) _ _ a5), np (((s1.trans s2).trans s3).trans s4) n5⟩,
        ⟨.dct (s7 _ _ a6), np ((((s1.trans s2).trans s3).trans s4).trans s5) n6⟩,
        ⟨.tup a7, np (((((s1.trans s2).trans s3).trans s4).trans s5).trans s6) n7⟩, fun _ h => nomatch h⟩
    have sl : Same H8 (upd H8 l (.lst items)) := same_new nl
    have al : (upd H8 l (.lst items)) l = some (.lst items) := upd_same
    have pl : p ≠ l := by
      obtain ⟨x, y, _, _, _, ep⟩ := hp1
      exact ne_of_none (s18 _ _ ep) nl
    have hp9 : Pot (upd H8 l (.lst items)) p := by
      obtain ⟨x, y, h1, h2, h3, ep⟩ := hp1
      exact ⟨x, y, h1, h2, h3, sl _ _ (s18 _ _ ep)⟩
    rw [ei] at al sl hp9
    refine ⟨.ref l, rfl, .ref p, rfl, .ref l, rfl, l, _, rfl, .inl (.inl (.inl al)), p, 19, rfl, hp9, by decide, by decide, fun H' i b2 hp2 i0 i1 => ?_⟩
    have al2 := b2 _ _ pl.symm al
    rw [← ei] at al2 sl
    obtain ⟨v, vi, va⟩ := at_in (xs := items) i0 (by rw [l19]; exact i1)
    refine ⟨l, items, i, v, rfl, rfl, .inl (.inl al2), va, ?_⟩
    obtain ⟨th, ne⟩ := all _ vi
    exact q _ _ ((b1.trans (Same.but (s18.trans sl))).trans (by rw [ei]; exact b2)) hp2 ((th.same sl).but ne (by rw [ei]; exact b2)) ne
end
end K11
set_option Elab.async false
set_option linter.all false
set_option maxRecDepth 100000
namespace K11
open PySem PySem.Spec PyProof.Rows L2 Kx TL
theorem joinL_len : ∀ ps : List (List Nat), (joinL [] ps).length = (ps.map List.length).sum
  | [] => rfl
  | [p] => by simp [joinL]
  | p :: r :: rs => by
    show (p ++ ([] ++ joinL [] (r :: rs))).length = p.length + ((r :: rs).map List.length).sum
    rw [List.nil_append, List.length_append, joinL_len (r :: rs)]
theorem sum_ones : ∀ ys : List Str, (∀ y ∈ ys, y.length = 1) → (ys.map (·.length)).sum = ys.length
  | [], _ => rfl
  | y :: r, h => by
    rw [List.map_cons, List.sum_cons, sum_ones r fun z hz => h z (List.mem_cons_of_mem _ hz), h y List.mem_cons_self, List.length_cons]
    omega
theorem join_len (ys : List Str) : (Txt.join "" ys).length = (ys.map (·.length)).sum := by
  have e : Txt.join "" ys = Str.join "" ys := by
    unfold Txt.join
    rw [StrLaws.glued_eq_join]
  rw [e, len_tl, tl_join, show tl (Str.ofString "") = [] from rfl, joinL_len, List.map_map]
  congr 1
theorem cut_len (z : Str) (lo hi : Option Int) : (cutS z lo hi).length ≤ z.length := by
  rw [len_tl, len_tl z]
  show (((z.cps.toList.drop _).take _).toArray.toList).length ≤ _
  rw [List.length_take]
  rw [List.length_drop]
  show min _ (z.cps.toList.length - _) ≤ z.cps.toList.length
  omega
section
variable {K : PySem.W.Frag} {mg : Str → Option Value} {P : Program} {base : Heap} {w : World}
theorem ok_thing {f fD fA : Addr} {fd fdD fdA : FuncData} {k : Nat} (F : Fun K "_law_thing" "_law_thing" sThing f fd) (FD : Fun K "_law_draw" "_law_draw" sDraw fD fdD)
    (bD : Binds K fdD ["_law_pot_here", "_law_many"] []) (gD : mg "_law_draw" = some (.ref fD))
    (FA : Fun K "_law_any_thing" "_law_any_thing" sAny fA fdA) (bA : Binds K fdA ["_law_pot_here"] []) (gA : mg "_law_any_thing" = some (.ref fA)) (T : Tx mg) :
    FnOk P w K mg base CX0 (k + 3) f fd ["_law_pot_here"] (spAny K) := by
  have GD : FnOk P w K mg base CX0 (k + 2) fD fdD ["_law_pot_here", "_law_many"] spDraw := ok_draw FD T
  have GA : FnOk P w K mg base CX0 (k + 2) fA fdA ["_law_pot_here"] (spAny K) := ok_any FA FD bD gD T
  refine F.ok scThing (fun vs H Q E h => ?_) (fun cdv A outer s H vs Q E hr h => ?_)
  · obtain ⟨p, rfl, _⟩ := h
    rfl
  · obtain ⟨p, rfl, hp, q⟩ := h
    refine ⟨_, pss_cons (ps_set (i := 1) scThing.nd rfl (.inr rfl) pe_str)
      (pss_cons (ps_set (i := 2) scThing.nd rfl (.inl rfl) (pe_join pe_str
        (pe_lc (own := [("_law_k", 5)]) (g := gName 5) (tt := tYes) rfl scThing.nd (pi_range1 (by rfl) T.rng (pa_cons (pe_call GD hr (by rfl) gD FD.kp bD .nil pass0 (pa_cons (pv 0) (pa_cons pe_int pa_nil))) pa_nil))
          (blkOk_by (N := ["_law_pot_here", "_law_letters", "_law_word", "_law_at", "_law_odd", "_law_k"]) (sc := defScope sThing) (by decide +kernel))
          (fun _ _ _ _ _ => pg_name (i := 5) scThing.nd rfl (Or.inl rfl)) (fun _ _ _ _ _ => pts_nil)
          (fun _ _ _ _ _ => pe_ix ix_str (pv 1) (pe_call GD hr (by rfl) gD FD.kp bD .nil pass0 (pa_cons (pv 0) (pa_cons pe_int pa_nil))) (fun _ _ => rfl)))))
      (pss_cons (ps_par (i := 3) (j := 4) (by rfl) scThing.nd rfl rfl (by decide) rfl rfl
        (pa_cons (pe_call GD hr (by rfl) gD FD.kp bD .nil pass0 (pa_cons (pv 0) (pa_cons (pe_op op_add (pe_callB call_len_str (by rfl) T.len PySem.boot_len (pa_cons (pv 2) pa_nil)) pe_int) pa_nil)))
          (pa_cons (pe_ix ix_str pe_str (pe_call GD hr (by rfl) gD FD.kp bD .nil pass0 (pa_cons (pv 0) (pa_cons pe_int pa_nil))) (fun _ _ => rfl)) pa_nil)) (by rfl))
      (pss_one (ps_ret (pe_ix ix_list (pe_lst (pa_cons (pv 2) (pa_cons (pe_op op_add_str (pe_op op_add_str (pe_slice sl_str (pv 2) po_none (po_some (pv 3))) (pv 4)) (pe_slice sl_str (pv 2) (po_some (pv 3)) po_none))
          (pa_cons (pe_call GA hr (by rfl) gA FA.kp bA .nil pass0 (pa_cons (pv 0) pa_nil)) pa_nil))))
        (pe_call GD hr (by rfl) gD FD.kp bD .nil pass0 (pa_cons (pv 0) (pa_cons pe_int pa_nil))) (fun _ _ => rfl)))))), ?_⟩
    have abcL : abc.length ≤ sizeLine := by decide
    -- the word
    refine ⟨⟨_, rfl⟩, .ref p, rfl, p, 11, rfl, hp, by decide, by decide, fun H1 n b1 hp1 n0 n1 => ?_⟩
    refine ⟨n, rfl, by omega, by omega, fun D nD => ?_⟩
    have pD : p ≠ D := by
      obtain ⟨x, y, _, _, _, ep⟩ := hp1
      exact ne_of_none ep nD
    refine lc_range (lo := 0) (n := n.toNat) (fun i H2 => But p H H2 ∧ Pot H2 p ∧ ∃ ys : List Str, H2 D = some (.lst (ys.map V.str)) ∧ ys.length = i ∧ ∀ y ∈ ys, y.length = 1)
      ⟨b1.new nD, hp1.new nD, [], upd_same, rfl, fun _ h => nomatch h⟩ (fun i H2 hi pv => ?_) (fun H2 pv => ?_)
    · obtain ⟨b2, hp2, ys, eD, el, ey⟩ := pv
      refine ⟨rfl, ?_⟩
      refine kept_yes ?_
      refine ⟨.str abc, rfl, .ref p, rfl, p, 26, rfl, hp2, by decide, by decide, fun H4 d b4 hp4 d0 d1 => ?_⟩
      obtain ⟨c, ec⟩ : ∃ c, atI abc.cps.toList d = some c := by
        obtain ⟨m, rfl⟩ := Int.eq_ofNat_of_zero_le d0
        have hm : m < abc.cps.toList.length := by
          show m < 26
          omega
        exact ⟨_, atI_nat (List.getElem?_eq_getElem hm)⟩
      refine ⟨abc, d, c, rfl, rfl, abcL, ec, _, b4 _ _ pD.symm eD, ?_, fun b o nb e => ?_, ?_, ys ++ [⟨#[c]⟩], ?_, ?_, ?_⟩
      · rw [List.length_map, el]
        exact small1000 (by omega)
      · rw [upd_ne (ne_of_none (b1 b o nb e) nD)]
        exact (b2.trans b4) b o nb e
      · obtain ⟨x, y, h1, h2, h3, ep⟩ := hp4
        exact ⟨x, y, h1, h2, h3, by rw [upd_ne pD]; exact ep⟩
      · rw [upd_same, List.map_append]
        rfl
      · rw [List.length_append, el]
        rfl
      · intro y hy
        rcases List.mem_append.mp hy with z | z
        · exact ey y z
        · obtain rfl := List.mem_singleton.mp z
          rfl
    · obtain ⟨b2, hp2, ys, eD, el, ey⟩ := pv
      have sum1 := sum_ones ys ey
      refine ⟨"", D, ys, rfl, rfl, .inl (.inl (.inl eD)), ?_, ?_⟩
      · rw [sum1]
        show ys.length + ys.length * 0 ≤ 16777216
        omega
      have wl : (Txt.join "" ys).length ≤ 10 := by
        rw [join_len, sum1, el]
        omega
      generalize Txt.join "" ys = wd at *
      have wz : wd.length ≤ sizeLine := Nat.le_of_lt (small1000 (by omega))
      -- where the odd sign stands, and which
      refine ⟨.ref p, rfl, .str wd, rfl, wd, rfl, wz, _, _, rfl, rfl, p, wd.length + 1, rfl, hp2, by omega, by omega, fun H3 i b3 hp3 i0 i1 => ?_⟩
      refine ⟨.ref p, rfl, p, 13, rfl, hp3, by decide, by decide, fun H4 j b4 hp4 j0 j1 => ?_⟩
      obtain ⟨c, ec⟩ : ∃ c, atI ("AZ09 _-,'\n.:|" : Str).cps.toList j = some c := by
        obtain ⟨m, rfl⟩ := Int.eq_ofNat_of_zero_le j0
        have hm : m < ("AZ09 _-,'\n.:|" : Str).cps.toList.length := by
          show m < 13
          omega
        exact ⟨_, atI_nat (List.getElem?_eq_getElem hm)⟩
      refine ⟨_, j, c, rfl, rfl, by decide, ec, _, _, rfl, ?_⟩
      -- the three, one of them
      have l1 := cut_len wd none (some i)
      have l2 := cut_len wd (some i) none
      have s30 : (30 : Nat) < sizeLine := by decide
      have addl : ∀ x y : Str, (x ++ y).length = x.length + y.length := fun x y => by
        rw [len_tl, len_tl x, len_tl y, tl_append, List.length_append]
      have cl : (⟨#[c]⟩ : Str).length = 1 := rfl
      refine ⟨.str wd, rfl, .str wd, rfl, .int i, rfl, i, rfl, wd, rfl, wz, .str ⟨#[c]⟩, rfl, _, _, rfl, rfl, ?_, ?_⟩
      · rw [cl]
        omega
      refine ⟨.str wd, rfl, .int i, rfl, i, rfl, wd, rfl, wz, _, _, rfl, rfl, ?_, ?_⟩
      · rw [addl, cl]
        omega
      refine ⟨.ref p, rfl, p, rfl, hp4, fun H5 v b5 hp5 tv nv => ?_⟩
      refine ⟨(by show 3 ≤ sizeLine; decide), fun l nl => ?_⟩
      refine ⟨.ref p, rfl, p, 3, rfl, hp5.new nl, by decide, by decide, fun H6 t b6 hp6 t0 t1 => ?_⟩
      have lp : l ≠ p := fun e => by
        obtain ⟨x, y, _, _, _, ep⟩ := hp5
        rw [e, ep] at nl
        cases nl
      have al := b6 _ _ lp upd_same
      obtain ⟨u, ui, ua⟩ := at_in (xs := [V.str wd, V.str (cutS wd none (some i) ++ ⟨#[c]⟩ ++ cutS wd (some i) none), v]) t0 t1
      refine ⟨l, _, t, u, rfl, rfl, .inl (.inl al), ua, ?_⟩
      have bb : But p H H6 := (((b2.trans b3).trans b4).trans b5).trans ((But.new But.refl nl).trans b6)
      have sl : Same H5 (upd H5 l (HO.lst [V.str wd, V.str (cutS wd none (some i) ++ ⟨#[c]⟩ ++ cutS wd (some i) none), v])) := same_new nl
      rcases List.mem_cons.mp ui with rfl | ui
      · exact q _ _ bb hp6 (.str _ wz) nofun
      rcases List.mem_cons.mp ui with rfl | ui
      · refine q _ _ bb hp6 (.str _ ?_) nofun
        rw [addl, addl, cl]
        omega
      · cases List.mem_singleton.mp ui
        exact q _ _ bb hp6 ((tv.same sl).but nv b6) nv
end
end K11
set_option Elab.async false
set_option linter.all false
set_option maxRecDepth 100000
namespace K11
open PySem PySem.Spec PyProof.Rows L2 Kx
theorem none_of {H H' : Hp} {p : Addr} (s : Same H H') (n : H' p = none) : H p = none := by
  cases e : H p with
  | none => rfl
  | some o =>
    rw [s _ _ e] at n
    cases n
theorem kbName {K : PySem.W.Frag} {f : Addr} {fd : FuncData} (F : Fun K "is_name" "is_name" sName f fd) : KBinds K fd ["thing"] ["thing"] (fun us ws => us ++ ws) (fun vs zs => vs ++ zs) := by
  obtain ⟨_, _, _, _, _, _, _, _, _, rfl, _, _⟩ := F.ex
  exact ⟨fun s us ws _ hl => match us, ws, hl with
    | [], [_], _ => .of_eq rfl
    | [_], [], _ => .of_eq rfl, fun r1 r2 => r1.append r2⟩
section
variable {K : PySem.W.Frag} {mg : Str → Option Value} {P : Program} {base : Heap} {w : World}
def spLaw (K : PySem.W.Frag) : Sp := fun vs H Q _ => ∃ (a : Addr) (ns : List Int), vs = [.ref a] ∧ SqL K H a (ns.map V.int) ∧ ns.length ≤ 63 ∧ ∀ H', Q (.bl true) H'
theorem ok_law {f fN fP fD fA fW fT : Addr} {fd fdN fdP fdD fdA fdW fdT : FuncData} (F : Fun K "law" "law" sLaw f fd)
    (FN : Fun K "is_name" "is_name" sName fN fdN) (bN : Binds K fdN ["thing"] []) (gN : mg "is_name" = some (.ref fN))
    (FP : Fun K "_law_pot" "_law_pot" sPot fP fdP) (bP : Binds K fdP ["_law_script", "_law_k"] []) (gP : mg "_law_pot" = some (.ref fP))
    (FD : Fun K "_law_draw" "_law_draw" sDraw fD fdD) (bD : Binds K fdD ["_law_pot_here", "_law_many"] []) (gD : mg "_law_draw" = some (.ref fD))
    (FA : Fun K "_law_any_thing" "_law_any_thing" sAny fA fdA) (bA : Binds K fdA ["_law_pot_here"] []) (gA : mg "_law_any_thing" = some (.ref fA))
    (FW : Fun K "_law_is_word" "_law_is_word" sWord fW fdW) (bW : Binds K fdW ["_law_item"] []) (gW : mg "_law_is_word" = some (.ref fW))
    (FT : Fun K "_law_thing" "_law_thing" sThing fT fdT) (bT : Binds K fdT ["_law_pot_here"] []) (gT : mg "_law_thing" = some (.ref fT))
    (T : Tx mg) : FnG P w K mg base CX0 4 f fd ["_law_script"] (spLaw K) := by
  have GN : FnOk P w K mg base CX0 3 fN fdN ["thing"] (spName K) := ok_name FN T
  have GP : FnOk P w K mg base CX0 3 fP fdP ["_law_script", "_law_k"] (spPot K) := ok_pot FP T
  have GW : FnOk P w K mg base CX0 3 fW fdW ["_law_item"] (spName K) := ok_word FW T
  have GT : FnOk P w K mg base CX0 3 fT fdT ["_law_pot_here"] (spAny K) := ok_thing FT FD bD gD FA bA gA T
  have kN := kbName FN
  refine okG F scLaw (fun vs H Q E h => ?_) (fun cdv A outer s H vs Q E gd hr h => ?_)
  · obtain ⟨a, ns, rfl, _⟩ := h
    rfl
  · obtain ⟨a, ns, rfl, hS, hlen, q⟩ := h
    refine ⟨_, pss_cons (ps_for PassesOwn.never rfl (pi_range1 (by rfl) T.rng (pa_cons (pe_callB (call_max2 rfl) (by rfl) T.mx (by decide +kernel) (pa_cons pe_int (pa_cons
          (pe_callB (call_min2 rfl) (by rfl) T.mn (by decide +kernel) (pa_cons pe_int (pa_cons (pe_callB call_len_seq (by rfl) T.len PySem.boot_len (pa_cons (pv 0) pa_nil)) pa_nil))) pa_nil))) pa_nil))
        (pg_name (i := 1) scLaw.nd rfl (.inl rfl))
        (pss_cons (ps_set (i := 2) scLaw.nd rfl (.inl rfl) (pe_call GP hr (by rfl) gP FP.kp bP .nil pass0 (pa_cons (pv 0) (pa_cons (pv 1) pa_nil))))
        (pss_one (ps_for PassesOwn.never rfl (pi_range1 (by rfl) T.rng (pa_cons pe_int pa_nil)) (pg_name (i := 3) scLaw.nd rfl (.inl rfl))
          (pss_cons (ps_set (i := 4) scLaw.nd rfl (.inl rfl) (pe_call GT hr (by rfl) gT FT.kp bT .nil pass0 (pa_cons (pv 2) pa_nil)))
          (pss_cons (ps_set (i := 5) scLaw.nd rfl (.inl rfl) (pe_call GW hr (by rfl) gW FW.kp bW .nil pass0 (pa_cons (pv 4) pa_nil)))
          (pss_one (ps_if (pt_cmpR op_ne
              (pe_callB (call_show gd hr.units) (by rfl) T.rpr (by decide +kernel) (pa_cons (pe_lst (pa_cons (pe_call GN hr (by rfl) gN FN.kp bN .nil pass0 (pa_cons (pv 4) pa_nil))
                (pa_cons (pe_callK0 GN hr (by rfl) gN FN.kp kN pass0 (pk_cons (pv 4) pk_nil)) (pa_cons (pe_call GN hr (by rfl) gN FN.kp bN .nil pass0 (pa_cons (pe_lst (pa_cons (pv 4) pa_nil)) pa_nil)) pa_nil)))) pa_nil))
              (pe_callB (call_show gd hr.units) (by rfl) T.rpr (by decide +kernel) (pa_cons (pe_lst (pa_cons (pv 5) (pa_cons (pv 5) (pa_cons pe_bl pa_nil)))) pa_nil)) (nomark _))
            (pss_one (ps_ret pe_bl)) pss_nil))))))))
      (pss_cons (ps_set (i := 6) scLaw.nd rfl (.inl rfl) (pe_lst (pa_cons pe_str (pa_cons pe_str (pa_cons pe_str (pa_cons pe_str (pa_cons pe_str (pa_cons pe_str (pa_cons pe_str pa_nil)))))))))
      (pss_one (ps_ret (pe_cmpR (op_eqD hr.units)
        (pe_lc (own := [("_law_word", 7)]) (g := gName 7) (tt := tYes) rfl scLaw.nd (pi_list (pv 6))
          (blkOk_by (N := ["_law_script", "_law_k", "_law_pot_here", "_law_turn", "_law_item", "_law_due", "_law_edges", "_law_word"]) (sc := defScope sLaw) (by decide +kernel))
          (fun _ _ _ _ _ => pg_name (i := 7) scLaw.nd rfl (Or.inl rfl)) (fun _ _ _ _ _ => pts_nil)
          (fun _ _ _ _ _ => pe_call GN hr (by rfl) gN FN.kp bN .nil pass0 (pa_cons (pv 7) pa_nil)))
        (pe_lst (pa_cons pe_bl (pa_cons pe_bl (pa_cons pe_bl (pa_cons pe_bl (pa_cons pe_bl (pa_cons pe_bl (pa_cons pe_bl pa_nil)))))))) (nomark _))))), ?_⟩
    -- how many cells
    refine ⟨.ref a, rfl, a, _, rfl, .inl hS, 8, _, rfl, 1, _, rfl, ?_⟩
    have en : (ns.map V.int).length = ns.length := List.length_map ..
    rw [en]
    obtain ⟨e, he⟩ : ∃ e : Int, e = (if (if (ns.length : Int) < 8 then (ns.length : Int) else 8) > 1 then (if (ns.length : Int) < 8 then (ns.length : Int) else 8) else 1) := ⟨_, rfl⟩
    have e1 : e ≤ 8 := by
      rw [he]
      split <;> split <;> omega
    have e0 : 0 ≤ e := by
      rw [he]
      split <;> split <;> omega
    rw [← he]
    refine ⟨e, rfl, by omega, by omega, ?_⟩
    refine for_it (walk_range (lo := 0) (n := e.toNat)) (fun i σ H1 => ∃ y1 y2 y3 y4 y5, σ = [some (.ref a), y1, y2, y3, y4, y5, none, none] ∧ Same H H1)
      ⟨none, none, none, none, none, rfl, fun _ _ z => z⟩ (fun _ _ _ _ _ => trivial) (fun i x σ H1 H1' hi pv y => ?_) (fun σ H1 pv => ?_)
    · obtain ⟨y1, y2, y3, y4, y5, rfl, sm⟩ := pv
      obtain ⟨rfl, rfl⟩ := y
      refine ⟨.ref a, rfl, .int (0 + i), rfl, a, ns, i, by rw [Int.zero_add]; rfl, sm.seq hS, by omega, fun H2 p s2 np hp => ?_⟩
      have np0 : H p = none := none_of sm np
      refine ⟨8, rfl, by decide, by decide, ?_⟩
      refine for_it (walk_range (lo := 0) (n := 8)) (fun j σ H3 => ∃ y3 y4 y5, σ = [some (.ref a), some (.int (0 + i)), some (.ref p), y3, y4, y5, none, none] ∧ Same H H3 ∧ Pot H3 p)
        ⟨y3, y4, y5, rfl, sm.trans s2, hp⟩ (fun _ _ _ _ _ => trivial) (fun j x σ H3 H3' hj pv y => ?_) (fun σ H3 pv => ?_)
      · obtain ⟨z3, z4, z5, rfl, sm3, hp3⟩ := pv
        obtain ⟨rfl, rfl⟩ := y
        refine ⟨.ref p, rfl, p, rfl, hp3, fun H4 v b4 hp4 tv nv => ?_⟩
        refine ⟨v, rfl, v, rfl, tv, fun H5 s5 => ?_⟩
        have tv5 := tv.same s5
        refine ⟨v, rfl, v, rfl, tv5, fun H6 s6 => ⟨v, rfl, v, rfl, tv5.same s6, fun H7 s7 => ?_⟩⟩
        refine ⟨v, rfl, (by show 1 ≤ sizeLine; decide), fun l1 n1 => ?_⟩
        refine ⟨.ref l1, rfl, .lst upd_same, fun H8 s8 => ?_⟩
        have three : 3 ≤ sizeLine := by decide
        refine ⟨three, fun l2 n2 => ?_⟩
        refine ⟨l2, .list [.bool (wordB v), .bool (wordB v), .bool false], rfl, .lst (.inl (.inl upd_same)) (.cons (.bl _) (.cons (.bl _) (.cons (.bl false) .nil))), rfl, rfl, ?_, ?_, ?_⟩
        · cases wordB v <;> decide
        · cases wordB v <;> decide +kernel
        refine ⟨.bl (wordB v), rfl, .bl (wordB v), rfl, three, fun l3 n3 => ?_⟩
        refine ⟨l3, .list [.bool (wordB v), .bool (wordB v), .bool false], rfl, .lst (.inl (.inl upd_same)) (.cons (.bl _) (.cons (.bl _) (.cons (.bl false) .nil))), rfl, rfl, ?_, ?_, ?_⟩
        · cases wordB v <;> decide
        · cases wordB v <;> decide +kernel
        refine ⟨rfl, _, rfl, ?_⟩
        rw [decide_eq_true rfl]
        refine iteF ?_
        have s4H : Same H H4 := same_but sm3 np0 b4
        have s58 : Same H4 H8 := (((s5.trans s6).trans s7).trans (same_new n1)).trans s8
        refine ⟨_, _, _, rfl, ((s4H.trans s58).trans (same_new n2)).trans (same_new n3), ?_⟩
        obtain ⟨x, y, h1, h2, h3, ep⟩ := hp4
        exact ⟨x, y, h1, h2, h3, same_new n3 _ _ (same_new n2 _ _ (s58 _ _ ep))⟩
      · obtain ⟨z3, z4, z5, rfl, sm3, hp3⟩ := pv
        exact ⟨_, _, _, _, _, rfl, sm3⟩
    · obtain ⟨y1, y2, y3, y4, y5, rfl, sm⟩ := pv
      refine ⟨(by show 7 ≤ sizeLine; decide), fun l nl => ?_⟩
      refine ⟨.ref l, rfl, l, rfl, ⟨_, .inl (.inl upd_same)⟩, fun D nD => ?_⟩
      have lD : l ≠ D := fun z => by
        rw [← z, upd_same] at nD
        cases nD
      refine lc_list (K := K) (a := l) (xs := [.str "a", .str "z", .str "abcdefgh", .str "abcdefghi", .str "", .str "aA", .str "a a"])
        (fun i H2 => H2 l = some (.lst [.str "a", .str "z", .str "abcdefgh", .str "abcdefghi", .str "", .str "aA", .str "a a"]) ∧
          H2 D = some (.lst (([.str "a", .str "z", .str "abcdefgh", .str "abcdefghi", .str "", .str "aA", .str "a a"].take i).map fun v => V.bl (wordB v))))
        ⟨by rw [upd_ne lD, upd_same], upd_same⟩ (fun i H2 _ pv => .inl (.inl pv.1)) (fun i x H2 hx pv => ?_) (fun H2 pv => ?_)
      · obtain ⟨el, eD⟩ := pv
        refine ⟨rfl, ?_⟩
        refine kept_yes ?_
        have hi : i < 7 := by
          refine Classical.byContradiction fun z => ?_
          rw [List.getElem?_eq_none (by show 7 ≤ i; omega)] at hx
          cases hx
        have tx : Thing K H2 x := by
          have := List.mem_of_getElem? hx
          simp only [List.mem_cons, List.not_mem_nil, or_false] at this
          rcases this with rfl | rfl | rfl | rfl | rfl | rfl | rfl <;> exact .str _ (by decide)
        refine ⟨x, rfl, x, rfl, tx, fun H3 s3 => ?_⟩
        refine ⟨_, s3 _ _ eD, ?_, ?_, ?_⟩
        · rw [List.length_map, List.length_take]
          show min i 7 < sizeLine
          exact small1000 (by omega)
        · rw [upd_ne lD]
          exact s3 _ _ el
        · rw [upd_same, List.take_add_one, hx, List.map_append]
          rfl
      · obtain ⟨el, eD⟩ := pv
        refine ⟨(by show 7 ≤ sizeLine; decide), fun l2 n2 => ?_⟩
        have dl : D ≠ l2 := ne_of_none eD n2
        refine ⟨.list [.bool true, .bool true, .bool true, .bool false, .bool false, .bool false, .bool false], .list [.bool true, .bool true, .bool true, .bool false, .bool false, .bool false, .bool false],
          .lst (xs := [.bl true, .bl true, .bl true, .bl false, .bl false, .bl false, .bl false]) (.inl (.inl ?_)) (.cons (.bl _) (.cons (.bl _) (.cons (.bl _) (.cons (.bl _) (.cons (.bl _) (.cons (.bl _) (.cons (.bl _) .nil))))))),
          .lst (.inl (.inl upd_same)) (.cons (.bl _) (.cons (.bl _) (.cons (.bl _) (.cons (.bl _) (.cons (.bl _) (.cons (.bl _) (.cons (.bl _) .nil))))))), by decide +kernel, by decide +kernel, ?_⟩
        · rw [upd_ne dl, eD]
          have : ([.str "a", .str "z", .str "abcdefgh", .str "abcdefghi", .str "", .str "aA", .str "a a"].map fun v => wordB v) = [true, true, true, false, false, false, false] := by decide +kernel
          have h2 := congrArg (List.map V.bl) this
          rw [List.map_map] at h2
          exact congrArg (fun z => some (HO.lst z)) h2
        · have : PyData.eqv (.list [.bool true, .bool true, .bool true, .bool false, .bool false, .bool false, .bool false]) (.list [.bool true, .bool true, .bool true, .bool false, .bool false, .bool false, .bool false]) = true := by decide +kernel
          rw [this]
          exact q _
end
end K11
set_option Elab.async false
set_option linter.all false
set_option maxRecDepth 100000
namespace K11
open PySem PySem.Spec PyProof.Rows L2 Kx
/-- where a def stands behind the top -/
structure At (K : PySem.W.Frag) (nm : Str) (st : Stmt) (f : Addr) (oc : Value) (od an : Option Addr) (sl : Array (Option Value)) (kV dc pm cd ct : Value) : Prop where
  a : PySem.W.nsIn K mainGlobals nm = some (some (.ref f))
  l : K.lookup f = some ⟨oc, od, .func (PySem.W.fnOf nm nm (defArgs st) (defBody st) (defScope st) .none kV dc pm an cd ct), sl⟩
  c : PySem.W.codeIn K cd nm = true
  k : PySem.W.keepIn K (.ref f) = true
theorem all_mk {l : PySem.W.OpenLaw} {w : World} {K : PySem.W.Frag} {h : Heap} {mg : Str → Option Value} {fa f1 f2 f3 f4 f5 f6 f7 : Addr} (X : K.In h) (G : h.Ns mainGlobals mg) (hfa : mg "law" = some (.ref fa))
    {od1 an1 od2 an2 od3 an3 od4 an4 od5 an5 od6 an6 od7 an7 : Option Addr} {sl1 sl2 sl3 sl4 sl5 sl6 sl7 : Array (Option Value)}
    {oc1 kV1 dc1 pm1 cd1 ct1 oc2 kV2 dc2 pm2 cd2 ct2 oc3 kV3 dc3 pm3 cd3 ct3 oc4 kV4 dc4 pm4 cd4 ct4 oc5 kV5 dc5 pm5 cd5 ct5 oc6 kV6 dc6 pm6 cd6 ct6 oc7 kV7 dc7 pm7 cd7 ct7 : Value} {t1 t2 : Tok}
    (a1 : PySem.W.nsIn K mainGlobals "is_name" = some (some (.ref f1))) (l1 : K.lookup f1 = some ⟨oc1, od1, .func (PySem.W.fnOf "is_name" "is_name" (defArgs sName) (defBody sName) (defScope sName) .none kV1 dc1 pm1 an1 cd1 ct1), sl1⟩) (c1 : PySem.W.codeIn K cd1 "is_name" = true) (k1 : PySem.W.keepIn K (.ref f1) = true)
    (a2 : PySem.W.nsIn K mainGlobals "_law_pot" = some (some (.ref f2))) (l2 : K.lookup f2 = some ⟨oc2, od2, .func (PySem.W.fnOf "_law_pot" "_law_pot" (defArgs sPot) (defBody sPot) (defScope sPot) .none kV2 dc2 pm2 an2 cd2 ct2), sl2⟩) (c2 : PySem.W.codeIn K cd2 "_law_pot" = true) (k2 : PySem.W.keepIn K (.ref f2) = true)
    (a3 : PySem.W.nsIn K mainGlobals "_law_draw" = some (some (.ref f3))) (l3 : K.lookup f3 = some ⟨oc3, od3, .func (PySem.W.fnOf "_law_draw" "_law_draw" (defArgs sDraw) (defBody sDraw) (defScope sDraw) .none kV3 dc3 pm3 an3 cd3 ct3), sl3⟩) (c3 : PySem.W.codeIn K cd3 "_law_draw" = true) (k3 : PySem.W.keepIn K (.ref f3) = true)
    (a4 : PySem.W.nsIn K mainGlobals "_law_any_thing" = some (some (.ref f4))) (l4 : K.lookup f4 = some ⟨oc4, od4, .func (PySem.W.fnOf "_law_any_thing" "_law_any_thing" (defArgs sAny) (defBody sAny) (defScope sAny) .none kV4 dc4 pm4 an4 cd4 ct4), sl4⟩) (c4 : PySem.W.codeIn K cd4 "_law_any_thing" = true) (k4 : PySem.W.keepIn K (.ref f4) = true)
    (a5 : PySem.W.nsIn K mainGlobals "_law_is_word" = some (some (.ref f5))) (l5 : K.lookup f5 = some ⟨oc5, od5, .func (PySem.W.fnOf "_law_is_word" "_law_is_word" (defArgs sWord) (defBody sWord) (defScope sWord) .none kV5 dc5 pm5 an5 cd5 ct5), sl5⟩) (c5 : PySem.W.codeIn K cd5 "_law_is_word" = true) (k5 : PySem.W.keepIn K (.ref f5) = true)
    (a6 : PySem.W.nsIn K mainGlobals "_law_thing" = some (some (.ref f6))) (l6 : K.lookup f6 = some ⟨oc6, od6, .func (PySem.W.fnOf "_law_thing" "_law_thing" (defArgs sThing) (defBody sThing) (defScope sThing) .none kV6 dc6 pm6 an6 cd6 ct6), sl6⟩) (c6 : PySem.W.codeIn K cd6 "_law_thing" = true) (k6 : PySem.W.keepIn K (.ref f6) = true)
    (a7 : PySem.W.nsIn K mainGlobals "law" = some (some (.ref f7))) (l7 : K.lookup f7 = some ⟨oc7, od7, .func (PySem.W.fnOf "law" "law" (defArgs sLaw) (defBody sLaw) (defScope sLaw) .none kV7 dc7 pm7 an7 cd7 ct7), sl7⟩) (c7 : PySem.W.codeIn K cd7 "law" = true) (k7 : PySem.W.keepIn K (.ref f7) = true)
    (z1 : PySem.W.nsIn K mainGlobals "len" = some none) (z2 : PySem.W.nsIn K mainGlobals "isinstance" = some none) (z3 : PySem.W.nsIn K mainGlobals "str" = some none) (z4 : PySem.W.nsIn K mainGlobals "all" = some none) (z5 : PySem.W.nsIn K mainGlobals "max" = some none) (z6 : PySem.W.nsIn K mainGlobals "min" = some none)
    (z7 : PySem.W.nsIn K mainGlobals "abs" = some none) (z8 : PySem.W.nsIn K mainGlobals "divmod" = some none) (z9 : PySem.W.nsIn K mainGlobals "range" = some none) (z10 : PySem.W.nsIn K mainGlobals "repr" = some none)
    (y1 : PySem.W.nsIn K mainGlobals "LETTERS" = some (some (.str abc t1))) (y2 : PySem.W.nsIn K mainGlobals "MOST_LETTERS" = some (some (.int 8 t2))) :
    ∃ fd : FuncData, (∀ (s : Shared) (v : Value), BindsTo s fd ⟨[v], []⟩ [("_law_script", v)]) ∧ ∀ base : Heap, K.In base → base.Ns mainGlobals mg → FnG l.prog w K mg base CX0 4 fa fd ["_law_script"] (spLaw K) := by
  have e := hfa.symm.trans (PySem.W.mg_of X G a7)
  cases e
  have F1 := fun_mk (st := sName) l1 c1 k1
  have F2 := fun_mk (st := sPot) l2 c2 k2
  have F3 := fun_mk (st := sDraw) l3 c3 k3
  have F4 := fun_mk (st := sAny) l4 c4 k4
  have F5 := fun_mk (st := sWord) l5 c5 k5
  have F6 := fun_mk (st := sThing) l6 c6 k6
  have F7 := fun_mk (st := sLaw) l7 c7 k7
  have b1 := F1.binds (ps := ["thing"]) fun _ _ _ _ _ _ us hl => match us, hl with | [_], _ => rfl
  have b2 := F2.binds (ps := ["_law_script", "_law_k"]) fun _ _ _ _ _ _ us hl => match us, hl with | [_, _], _ => rfl
  have b3 := F3.binds (ps := ["_law_pot_here", "_law_many"]) fun _ _ _ _ _ _ us hl => match us, hl with | [_, _], _ => rfl
  have b4 := F4.binds (ps := ["_law_pot_here"]) fun _ _ _ _ _ _ us hl => match us, hl with | [_], _ => rfl
  have b5 := F5.binds (ps := ["_law_item"]) fun _ _ _ _ _ _ us hl => match us, hl with | [_], _ => rfl
  have b6 := F6.binds (ps := ["_law_pot_here"]) fun _ _ _ _ _ _ us hl => match us, hl with | [_], _ => rfl
  have T : Tx mg := ⟨PySem.W.mg_none_of X G z1, PySem.W.mg_none_of X G z2, PySem.W.mg_none_of X G z3, PySem.W.mg_none_of X G z4, PySem.W.mg_none_of X G z5, PySem.W.mg_none_of X G z6,
    PySem.W.mg_none_of X G z7, PySem.W.mg_none_of X G z8, PySem.W.mg_none_of X G z9, PySem.W.mg_none_of X G z10, ⟨_, PySem.W.mg_of X G y1⟩, ⟨_, PySem.W.mg_of X G y2⟩⟩
  exact ⟨_, fun s v => .of_eq rfl, fun base _ _ => ok_law F7 F1 b1 (PySem.W.mg_of X G a1) F2 b2 (PySem.W.mg_of X G a2) F3 b3 (PySem.W.mg_of X G a3) F4 b4 (PySem.W.mg_of X G a4) F5 b5 (PySem.W.mg_of X G a5) F6 b6 (PySem.W.mg_of X G a6) T⟩
end K11
open PySem PySem.W PyProof.Rows
set_option maxHeartbeats 0 in
theorem PySem.Challenge.cw_mergereach_k11_names_of_any_value_holds : PySem.Challenge.rw_mergereach_k11_names_of_any_value.Holds := by
  w_on; o_law; k_head; (case hw => w_witness2)
  k_fill
  refine Kx.walk_G (l := PySem.Challenge.rw_mergereach_k11_names_of_any_value) (n := 63) (k := 4) (x := "_law_script") (CX := L2.CX0) (sp := K11.spLaw) rfl (by decide) rfl ⟨rfl, by decide, by decide⟩ (fun w h Y => PySem.W.kIn_of Y) ?F (fun _ _ a ns hl _ hS => ⟨a, ns, rfl, hS, hl, fun _ => rfl⟩) (fun _ _ _ _ h => h)
  case F =>
    intro w mg fa h KX G hmg
    refine' K11.all_mk KX G hmg ?a1 ?l1 ?c1 ?k1 ?a2 ?l2 ?c2 ?k2 ?a3 ?l3 ?c3 ?k3 ?a4 ?l4 ?c4 ?k4 ?a5 ?l5 ?c5 ?k5 ?a6 ?l6 ?c6 ?k6 ?a7 ?l7 ?c7 ?k7 ?z1 ?z2 ?z3 ?z4 ?z5 ?z6 ?z7 ?z8 ?z9 ?z10 ?y1 ?y2
    (case a1 => k_is); (case l1 => k_is); (case c1 => k_is); (case k1 => k_is); (case a2 => k_is); (case l2 => k_is); (case c2 => k_is); (case k2 => k_is)
    (case a3 => k_is); (case l3 => k_is); (case c3 => k_is); (case k3 => k_is); (case a4 => k_is); (case l4 => k_is); (case c4 => k_is); (case k4 => k_is)
    (case a5 => k_is); (case l5 => k_is); (case c5 => k_is); (case k5 => k_is); (case a6 => k_is); (case l6 => k_is); (case c6 => k_is); (case k6 => k_is)
    (case a7 => k_is); (case l7 => k_is); (case c7 => k_is); (case k7 => k_is)
    (case z1 => k_is); (case z2 => k_is); (case z3 => k_is); (case z4 => k_is); (case z5 => k_is); (case z6 => k_is); (case z7 => k_is); (case z8 => k_is); (case z9 => k_is); (case z10 => k_is); (case y1 => k_is); (case y2 => k_is)
