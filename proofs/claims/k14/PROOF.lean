import PyProof.Rows.All
import Wide.All
import OpenK.AllK
import Wide.FinOn
import HandS.ForMost
import HandS.IsInst
import HandS.Flow
import PyProof.ReprRoads
import PyProof.ZipIter
import KE.KItemsList
import HandS.ListItems
import KE.GoesMore
import KE.GoesEnum
import HandS.Walk
import HandS.ClsMeth
import HandS.Zip
import KE.KDictZip
import HandS.TupAny
import HandS.Style
import PySem.Challenge.RW_mergereach_k14_versions_judged
set_option Elab.async false
set_option linter.all false
set_option maxRecDepth 100000
namespace Kx
open PySem PySem.Spec PyProof.Rows L2

/-! ### repr of data, where nothing is being shown around -/
section
variable {X : Cx}
def rShow (K : PySem.W.Frag) : List V → Hp → VK → Prop := fun vs H Q =>
  ∃ (p : Addr) (d : PyData), vs = [V.ref p] ∧ Dp K H (.ref p) d ∧ d.showable = true ∧ d.hasDict = false ∧
    d.depth ≤ 40 ∧ d.shown.length ≤ sizeLine ∧ Q (.str d.shown) H
theorem call_show (gd : X.A.guards = some []) (un : X.A.units + 64 < cLine) :
    CallR X (.builtin "repr") (rShow X.K) := by
  intro pins s σ H xs us Q I rel want
  obtain ⟨p, d, rfl, dp, sh, nd, dep, len, q⟩ := want
  obtain ⟨u, rfl, ru⟩ := vals1 rel
  cases ru
  obtain ⟨as, rd⟩ := Dp.reads I d _ _ dp rfl
  refine repr_of_reads' rd sh (PyData.noDict_hsm nd) gd (by omega) (fun _ _ e => e) (fun h' u tk keep => ?_) len
  exact ⟨.str _, H, I.kept keep, ⟨_, rfl⟩, q⟩
end

/-! ### defs that are called where nothing is being shown -/
structure FnG (P : Program) (w : World) (K : PySem.W.Frag) (mg : Str → Option Value) (base : Heap)
    (CX : CXT) (k : Nat) (f : Addr) (fd : FuncData) (ps : List Str) (sp : Sp) : Prop where
  many : ∀ vs H Q E, sp vs H Q E → vs.length = ps.length
  goes : ∀ (A : Around) (outer : List Env) (s : Shared) (H : Hp) (args : Args) (us : List Value) (vs : List V) (Q : VK) (E : XK),
    A.guards = some [] → Room k A → Env0 P w K mg base A outer s H →
    BindsTo s fd args (ps.zip us) → Vals vs us → sp vs H Q E → codeAny (model P w) A (.call (.ref f) args) (CR CX outer P w H s Q E) s

section
variable {K : PySem.W.Frag} {mg : Str → Option Value} {P : Program} {base : Heap} {w : World}
theorem FnG.of {CX : CXT} {k : Nat} {f : Addr} {fd : FuncData} {ps : List Str} {sp : Sp}
    (F : FnOk P w K mg base CX k f fd ps sp) : FnG P w K mg base CX k f fd ps sp :=
  ⟨F.len, fun A outer s H args us vs Q E _ => F.run A outer s H args us vs Q E⟩

/-- a def's body keeps its promise, the guards known -/
theorem fnG_of {CX : CXT} {k : Nat} {f : Addr} {nm qual : Str} {prs : Arguments} {bd : List Stmt} {sc : Scope}
    {dV kV doc pm cdv ct oc : Value} {an od : Option Addr} {osl : Array (Option Value)} {N ps : List Str} {sp : Sp}
    (lk : K.lookup f = some ⟨oc, od, .func (PySem.W.fnOf nm qual prs bd sc dV kV doc pm an cdv ct), osl⟩)
    (cin : PySem.W.codeIn K cdv qual = true) (S : FnScope N ps sc)
    (many : ∀ vs H Q E, sp vs H Q E → vs.length = ps.length)
    (body : ∀ (A : Around) (outer : List Env) (s : Shared) (H : Hp) (vs : List V) (Q : VK) (E : XK),
      A.guards = some [] → Room k (A.deeper (envOfC qual sc s.heap.objs.size f cdv)) → sp vs H Q E →
      ∃ t, PSs (cxOf CX P w K mg base N qual sc f cdv A outer s H E) bd t ∧
        t { nx := fun _ H' => Q .non H', rt := Q } (start N vs) H) :
    FnG P w K mg base CX (k + 1) f (PySem.W.fnOf nm qual prs bd sc dV kV doc pm an cdv ct) ps sp := by
  refine ⟨many, fun A outer s H args us vs Q E gd room en bt rel want => ?_⟩
  have ln := many _ _ _ _ want
  have kin : K.In s.heap := en.mod.kin.keeps fun b o e => (en.bs b o e).1
  have nolim : s.heap.NoLimit := en.mod.nolimit.keeps fun b o e => (en.bs b o e).1
  have kinds : ∀ y ∈ ps.zip us, sc.names.lookup y.1 = some .local ∨
      (sc.names.lookup y.1 = some .cell ∧ ((cellsFrom (s.heap.objs.size + 1) sc.names []).lookup y.1).isSome = true) := by
    rintro ⟨n, v⟩ hy
    rcases S.par n (List.of_mem_zip hy).1 with z | z
    · exact .inl z
    · exact .inr ⟨z, PySem.W.cellsFrom_some _ _ _ (.inl z)⟩
  refine codeAny_call_function room.depth (kin _ _ lk) rfl S.co S.gen rfl (PySem.W.codeRec_of kin cin) (bt _ _ _ _ ?_)
  refine wpAny_newFunctionEnv_cells S.kind kinds fun env he s1 x => ?_
  subst he
  refine ⟨nolim.keeps x.toInCall.keep, codeAny_func ?_⟩
  obtain ⟨t, pt, pq⟩ := body A outer s H vs Q E gd (room.deeper _) want
  have I : Inv (cxOf CX P w K mg base N qual sc f cdv A outer s H E) [] (start N vs) H s1 := inv_start S room.hd en ln rel x
  refine wpAny_mono (pt.run [] s1 (start N vs) H _ I pq) (fun fl s' z => ?_) fun _ _ z => z
  cases fl with
  | ret u =>
    obtain ⟨v, σ', H', J, rv, q⟩ := z
    exact (⟨v, H', J.os, J.bare, J.base, J.hok, rv, q⟩ : CE outer P w H s Q u s')
  | next =>
    obtain ⟨σ', H', J, q⟩ := z
    exact (⟨V.non, H', J.os, J.bare, J.base, J.hok, rfl, q⟩ : CE outer P w H s Q Value.none s')
  | brk =>
    obtain ⟨_, _, _, no⟩ := z
    exact no.elim
  | cont =>
    obtain ⟨_, _, _, no⟩ := z
    exact no.elim

/-- a def from which no error goes out -/
theorem okG {x qual : Str} {st : Stmt} {f : Addr} {fd : FuncData} {N ps : List Str} {k : Nat} {sp : Sp} (F : Fun K x qual st f fd)
    (S : FnScope N ps (defScope st)) (many : ∀ vs H Q E, sp vs H Q E → vs.length = ps.length)
    (body : ∀ (cdv : Value) (A : Around) (outer : List Env) (s : Shared) (H : Hp) (vs : List V) (Q : VK) (E : XK),
      A.guards = some [] → Room k (A.deeper (envOfC qual (defScope st) s.heap.objs.size f cdv)) → sp vs H Q E →
      ∃ t, PSs (cxOf CX0 P w K mg base N qual (defScope st) f cdv A outer s H E).nox (defBody st) t ∧
        t { nx := fun _ H' => Q .non H', rt := Q } (start N vs) H) : FnG P w K mg base CX0 (k + 1) f fd ps sp := by
  obtain ⟨oc, od, kV, doc, pm, an, cdv, ct, osl, rfl, lk, cin⟩ := F.ex
  refine fnG_of lk cin S many fun A outer s H vs Q E gd room want => ?_
  obtain ⟨t, h, q⟩ := body cdv A outer s H vs Q E gd room want
  exact ⟨t, h.nox, q⟩
end

/-! ### calls of such defs -/
section
variable {X : Cx} {CX : CXT} {k : Nat} {f : Addr} {fd : FuncData} {ps : List Str} {sp : Sp} {dvs : List V} {ds : List Value} {E : XK}
  {x : Str} {p pos : Pos} {e : Expr} {es : List Expr} {t : TA}
theorem go_fnG {pins : List (Addr × Obj)} {σ : L2.St} {H : Hp} {s : Shared} {Q : VK} {us : List Value} {vs : List V}
    (F : FnG X.prog X.w X.K X.mg X.base CX k f fd ps sp) (gd : X.A.guards = some []) (room : Room k X.A)
    (hb : Binds X.K fd ps ds) (hd : Vals dvs ds) (hx : Passes CX X E)
    (I : Inv X pins σ H s) (rel : Vals vs us) (want : sp (vs ++ dvs) H Q E) : wpAny (model X.prog X.w) X.A (call (.ref f) us) (EP X pins σ Q) X.xe s := by
  have rel2 : Vals (vs ++ dvs) (us ++ ds) := rel.append hd
  have ln : (us ++ ds).length = ps.length := rel2.length.symm.trans (F.many _ _ _ _ want)
  have run := F.goes X.A X.stack s H ⟨us, []⟩ (us ++ ds) (vs ++ dvs) Q E gd room I.env0 (hb s us I.kIn ln) rel2 want
  refine wpAny_call (codeAny_mono run fun r s' got => ?_)
  match r, got with
  | .error e, got => exact hx pins σ H s e s' I got
  | .ok (.ret u), got => exact I.after got
theorem pe_callG (F : FnG X.prog X.w X.K X.mg X.base CX k f fd ps sp) (gd : X.A.guards = some []) (room : Room k X.A) (hg : Gl X x)
    (hm : X.mg x = some (.ref f)) (hk : PySem.W.keepIn X.K (.ref f) = true) (hb : Binds X.K fd ps ds) (hd : Vals dvs ds)
    (hx : Passes CX X E) (ha : PA X (e :: es) t) (hdb : (x == ("__debug__" : Str)) = false := by decide)
    (he : starEach (e :: es) X.env = (false, eval e X.env) :: starEach es X.env := by rfl)
    (hpl : (backTo pos (starEach es X.env)).any (·.1) = false := by rfl) : PE X (.Call (.Name x p) (e :: es) [] pos) (tCall sp dvs E t) := by
  refine ⟨fun pins s σ H Q I want => wpAny_Call_Name_kw (ld_glob I hg hm ?_ hdb)⟩
  refine PySem.W.callWith_K (h₀ := X.base) I.ok.mod.kin hk ?_ he hpl
  exact thn (ha.run pos pins s σ H _ I want) fun us s1 ⟨vs, H1, I1, rel, q⟩ => ⟨I1.kIn, go_fnG F gd room hb hd hx I1 rel q⟩

/-- f(k = v, ..) without positional arguments -/
theorem pe_callK0 {ks : List Str} {kws : List Keyword} {tk : TA} {g : List Value → List Value → List Value} {gV : List V → List V → List V}
    (F : FnOk X.prog X.w X.K X.mg X.base CX k f fd ps sp) (room : Room k X.A) (hg : Gl X x) (hm : X.mg x = some (.ref f))
    (hk : PySem.W.keepIn X.K (.ref f) = true) (hb : KBinds X.K fd ps ks g gV) (hx : Passes CX X E) (hkw : PK X kws tk)
    (hall : (backToKw pos (keywordEach kws X.env)).all (·.1.isSome) = true := by rfl)
    (hks : (backToKw pos (keywordEach kws X.env)).filterMap (·.1) = ks := by rfl)
    (hdb : (x == ("__debug__" : Str)) = false := by decide)
    (plain : ((backTo pos (starEach [] X.env)).any (·.1) || (backToKw pos (keywordEach kws X.env)).any (·.1.isNone)) = false := by rfl) : PE X (.Call (.Name x p) [] kws pos) (tCallK sp gV E tNil tk) := by
  refine ⟨fun pins s σ H Q I want => wpAny_Call_Name_kw (ld_glob I hg hm ?_ hdb)⟩
  refine PySem.W.callWith_KW0 (h₀ := X.base) I.ok.mod.kin hk hall ?_ plain
  refine thn (hkw.run pos pins s σ H _ I want) fun ws s2 ⟨zs, H2, I2, rz, q2⟩ => ⟨I2.kIn, ?_⟩
  rw [hks]
  exact run_fnk (us := []) (vs := []) F room hb hx I2 .nil rz q2
end

/-! ### the law's own call, at the place where it is called -/
section
variable {P : Program} {w : World} {K : PySem.W.Frag} {mg mb : Str → Option Value}
theorem law_callG {CX : CXT} {k : Nat} {fa a : Addr} {fd : FuncData} {x : Str} {sp : Sp} {s₁ : Shared} {vs : List Value} {ns : List Int}
    (KX : K.In s₁.heap) (gl : s₁.heap.Ns mainGlobals mg) (bl : s₁.heap.Ns builtinsNs mb)
    (boot : ∀ x : Str, x ≠ "__name__" → mb x = bootBuiltins x) (lim : s₁.heap.NoLimit) (hg : s₁.gens = #[])
    (ha : s₁.heap.get? a = some { cls := .type "list", data := .seq vs.toArray }) (hi : IntsAre vs ns) (hl : ns.length ≤ sizeLine)
    (room : Room k callerA)
    (F : ∀ base : Heap, K.In base → base.Ns mainGlobals mg → FnG P w K mg base CX k fa fd [x] sp)
    (bind : ∀ (s : Shared) (u : Value), BindsTo s fd ⟨[u], []⟩ [(x, u)])
    (want : ∀ H : Hp, Only H → SqL K H a (ns.map V.int) → sp [.ref a] H (fun v _ => v = .bl true) fun _ _ _ => False)
    (noX : ∀ H e s', CX [] H s₁ (fun _ _ _ => False) e s' → False) :
    codeAny (model P w) callerA (.call (.ref fa) ⟨[.ref a], []⟩)
      (fun r s' => r = .ok (.ret (.bool true)) ∧ OldK s₁.heap s'.heap ∧ s'.os = s₁.os ∧ AllBare s'.gens) s₁ := by
  have rv := vals_ints hi
  have ln := hi.length
  have main : ∀ H : Hp, Only H → SqL K H a (ns.map V.int) → HOk P w H s₁.heap → (∀ b, H b ≠ none → b = a) → (H a ≠ none → K.lookup a = none) →
      codeAny (model P w) callerA (.call (.ref fa) ⟨[.ref a], []⟩)
        (fun r s' => r = .ok (.ret (.bool true)) ∧ OldK s₁.heap s'.heap ∧ s'.os = s₁.os ∧ AllBare s'.gens) s₁ := by
    intro H only seq hok hA hK
    have stays : ∀ {b : Addr} {o : Obj}, s₁.heap.get? b = some o → H b = none → (hidT s₁.heap H).get? b = some o :=
      fun e n => hidT_get e n
    have notA : ∀ {b : Addr} {o : Obj} {es : Array DictEntry} {ep : Nat}, s₁.heap.get? b = some o → o.data = .dict es ep → H b = none := by
      intro b o es ep e dd
      refine Classical.byContradiction fun nn => ?_
      have ba := hA b nn
      subst ba
      rw [ha] at e
      cases e
      cases (show Data.seq vs.toArray _ = Data.dict es ep from dd)
    have nsK : ∀ {b : Addr} {m : Str → Option Value}, s₁.heap.Ns b m → (hidT s₁.heap H).Ns b m := by
      rintro b m ⟨o, es, ep, e, dd, r⟩
      exact ⟨o, es, ep, stays e (notA e dd), dd, r⟩
    have kb : K.In (hidT s₁.heap H) := by
      intro b o e
      refine stays (KX b o e) (Classical.byContradiction fun nn => ?_)
      have ba := hA b nn
      subst ba
      rw [hK nn] at e
      cases e
    have md : Mod K mg (hidT s₁.heap H) := by
      obtain ⟨mc, l1, l2⟩ := lim
      exact ⟨kb, nsK gl, ⟨mb, nsK bl, boot⟩, ⟨mc, nsK l1, l2⟩⟩
    have en : Env0 P w K mg (hidT s₁.heap H) callerA [] s₁ H :=
      { frames := rfl, mod := md, bs := fun b o e => of_hidT e, bsz := Nat.le_of_eq (hidT_size _ _), funs := trivial,
        frf := (fun b hb => nomatch (show b ∈ ([] : List Addr) from hb)), hok := hok, bare := .of_eq hg }
    have run := (F _ kb (nsK gl)).goes callerA [] s₁ H ⟨[.ref a], []⟩ [.ref a] [.ref a] _ _ rfl room en (bind s₁ (.ref a)) (.cons rfl .nil) (want H only seq)
    refine codeAny_mono run fun r s' got => ?_
    match r, got with
    | .error e, got => exact (noX H e s' got).elim
    | .ok (.ret u), got =>
      obtain ⟨v, H', os, bare, un, hok', r', q⟩ := got
      cases (show v = .bl true from q)
      cases (show u = Value.bool true from r')
      refine ⟨rfl, OldK.of_keep (fun b o e => ?_), os, bare⟩
      cases q : H b with
      | none => exact un.keep b o e q (fun z => nomatch (show b ∈ ([] : List Addr) from z)) (by simp)
      | some u =>
        rcases only b with z | ⟨ob, xs, z⟩
        · rw [q] at z
          cases z
        · obtain ⟨e1, _⟩ := hok b _ z
          obtain ⟨e2, _⟩ := hok' b _ (un.frzs b ob _ z)
          rw [e] at e1
          cases e1
          exact e2
  cases lk : K.lookup a with
  | some o =>
    have e := KX a o lk
    rw [ha] at e
    cases e
    refine main (fun _ => none) (fun _ => .inl rfl) (.inr ⟨_, vs.toArray, _, lk, rfl, rfl, rfl, ?_, ?_⟩) (fun b u z => nomatch (show (none : Option HO) = some u from z)) (fun b z => absurd rfl z) fun z => absurd rfl z
    · rw [List.size_toArray, ln]
      exact hl
    · simpa using rv
  | none =>
    have at_ : ∀ {b : Addr} {y : Option HO}, (if b = a then some (HO.frz { cls := .type "list", data := .seq vs.toArray } (.lst (ns.map V.int))) else none) = y →
        (b = a ∧ y = some (HO.frz { cls := .type "list", data := .seq vs.toArray } (.lst (ns.map V.int)))) ∨ (b ≠ a ∧ y = none) := by
      intro b y e
      by_cases c : b = a
      · rw [if_pos c] at e
        exact .inl ⟨c, e.symm⟩
      · rw [if_neg c] at e
        exact .inr ⟨c, e.symm⟩
    refine main (fun b => if b = a then some (.frz { cls := .type "list", data := .seq vs.toArray } (.lst (ns.map V.int))) else none) (fun b => ?_) (.inl (.inr ⟨_, if_pos rfl⟩)) (fun b u z => ?_) (fun b z => ?_) fun _ => lk
    · rcases at_ (b := b) rfl with ⟨_, e⟩ | ⟨_, e⟩
      · exact .inr ⟨_, _, e⟩
      · exact .inl e
    · rcases at_ z with ⟨c, e⟩ | ⟨_, e⟩
      · subst c
        cases e
        exact ⟨ha, (List.length_map ..).symm ▸ hl, vs, _, rv, ha⟩
      · cases e
    · rcases at_ (b := b) rfl with ⟨c, _⟩ | ⟨_, e⟩
      · exact c
      · exact absurd e z
end

/-- what k_head leaves, from the law's promise -/
theorem walk_G {l : PySem.W.OpenLaw} {n k : Nat} {q : Program} {loose : List Str} {XP : (Str → Option Value) → Heap → Prop}
    {YP : World → Heap → Prop} {d : DefRec} {K : Params → PySem.W.Frag} {CX : CXT} {sp : PySem.W.Frag → Sp} {x : Str}
    (hn : l.most = some n) (hn2 : n ≤ sizeLine) (hdf : d.params.defaults = []) (room : Room k callerA)
    (hY : ∀ (w : World) (hp : Heap), YP w hp → (K w.params).In hp)
    (F : ∀ (w : World) (mg : Str → Option Value) (fa : Addr) (hp : Heap), (K w.params).In hp → hp.Ns mainGlobals mg → mg d.name = some (.ref fa) → ∃ fd : FuncData,
      (∀ (sh : Shared) (u : Value), BindsTo sh fd ⟨[u], []⟩ [(x, u)]) ∧ ∀ base : Heap, (K w.params).In base → base.Ns mainGlobals mg → FnG l.prog w (K w.params) mg base CX k fa fd [x] (sp (K w.params)))
    (want : ∀ (K : PySem.W.Frag) (H : Hp) (a : Addr) (ns : List Int), ns.length ≤ n → Only H → SqL K H a (ns.map V.int) →
      sp K [.ref a] H (fun v _ => v = .bl true) fun _ _ _ => False)
    (noX : ∀ (H : Hp) (s : Shared) (e : Value) (s' : Shared), CX [] H s (fun _ _ _ => False) e s' → False) : PySem.W.WalkO q loose XP YP l.row.toRowW d [] (fun f vs => PySem.call f vs) := by
  refine Att.attach_call hn hdf fun w _ s₁ mg _ fa _ _ _ _ a vs ns G Y _ _ _ hmg hobj hints hlen hg => ?_
  obtain ⟨fd, hb, hF⟩ := F w mg fa _ (hY w _ Y) G.T.g hmg
  exact law_callG (hY w _ Y) G.T.g G.T.b G.T.builtins G.T.nolimit hg hobj hints (Nat.le_trans hlen hn2) room hF hb (fun H hO hS => want _ H a ns hlen hO hS) fun H e s' => noX H s₁ e s'
end Kx
set_option Elab.async false
set_option linter.all false
set_option maxRecDepth 100000
set_option maxHeartbeats 1000000
namespace Kz
open PySem
open PySem.Sem (wp)
/-- a zip object that has handed out the tuple at T -/
abbrev ZipO (h : Heap) (z TI TO : Addr) (f0 : Value) (f1 : Bool) : Prop :=
  h.get? z = some { cls := .type "zip", dict := none, data := .fields #[f0, .bool f1, .bool false, .ref TI, .ref TO], slots := #[] }
section
variable {E : Value → Shared → Prop} {s : Shared} {A : Around} {prog : Program} {w : World}
open Builtin.SmallTypes in
/-- one turn of a zip object that has handed out the tuple at T (which lives still): the first is asked, then the second, then a new pair is laid -/
theorem zip_turn {z TI TO i1 i2 T : Addr} {f1 : Bool} {oT : Obj} {Q : Fin → Shared → Prop} (hz : ZipO s.heap z TI TO (rawInt T) f1) (hT : s.heap.get? T = some oT) (hTI : IsPair s.heap TI (.ref i1) (.ref i2))
    (go : ∀ hA, ZipO hA z TI TO (rawInt T) true → Heap.SameBut z s.heap hA → wpAny (model prog w) A (nextOf (.ref i1)) (fun x s1 => wpAny (model prog w) A (nextOf (.ref i2)) (fun y s2 =>
      Q (.done (.ret (.ref s2.heap.objs.size))) { s2 with heap := s2.heap.push { cls := .type "tuple", data := .seq #[x, y] } }) E s1) E { s with heap := hA }) :
    wpAny (model prog w) A (Builtin.«zip.__next__» ⟨[Value.ref z], []⟩) Q E s := by
  have known : wpAny (model prog w) A (ownedTupleIsFree (.ref z)) (fun b t => b = false ∧ ∃ hA, t = { s with heap := hA } ∧ ZipO hA z TI TO (rawInt T) true ∧ Heap.SameBut z s.heap hA) E s := by
    refine (show wpAny _ _ (field (.ref z) 0 >>= _) _ _ _ from wpAny_bind (wpAny_field hz rfl rfl ?_))
    dsimp only
    refine (show wpAny _ _ (loadIfAlive ((T : Int)).toNat >>= _) _ _ _ from ?_)
    rw [Int.toNat_natCast]
    refine wpAny_bind (W.kdx_alive hT (show wpAny _ _ (field (.ref z) 1 >>= _) _ _ _ from wpAny_bind (wpAny_field hz rfl (x := .bool f1) rfl ?_)))
    cases f1 with
    | true => exact (show wpAny _ _ (pure false) _ _ _ from wpAny_pure ⟨rfl, s.heap, rfl, hz, rfl, fun _ _ => rfl⟩)
    | false => exact (show wpAny _ _ (setField (.ref z) 1 (.bool true) >>= _) _ _ _ from wpAny_bind (wpAny_setField_rec hz (by simp) fun hA zA same => wpAny_pure ⟨rfl, hA, rfl, zA, same⟩))
  refine (show wpAny _ _ (field (.ref z) 2 >>= _) _ _ _ from wpAny_bind (wpAny_field hz rfl (x := .bool false) rfl
    (show wpAny _ _ (field (.ref z) 3 >>= _) _ _ _ from wpAny_bind (wpAny_field hz rfl (x := .ref TI) rfl (wpAny_bind (wpAny_seqItems hTI rfl (wpAny_bind (wpAny_mono known (fun b t got => ?_) fun _ _ e => e))))))))
  obtain ⟨rfl, hA, rfl, zA, same⟩ := got
  refine (show wpAny _ _ (_ >>= _) _ _ _ from wpAny_bind ?_)
  first
  | rw [List.forIn_toArray, List.forIn_cons, List.forIn_cons, List.forIn_nil]
  | (rw [← Array.forIn_toList, List.toList_toArray, List.forIn_cons]; simp only [List.forIn_cons, List.forIn_nil, pure_bind])
  refine wpAny_bind (wpAny_bind (wpAny_holding (show wpAny _ _ (nextOf (.ref i1) >>= _) _ _ _ from wpAny_bind (wpAny_mono (go hA zA same) (fun x s1 more => wpAny_pure (wpAny_pure ?_)) fun _ _ e => e))))
  refine wpAny_bind (wpAny_bind (wpAny_holding (show wpAny _ _ (nextOf (.ref i2) >>= _) _ _ _ from wpAny_bind (wpAny_mono more (fun y s2 fin => wpAny_pure (wpAny_pure (wpAny_pure ?_))) fun _ _ e => e))))
  exact (show wpAny _ _ (newTuple [x, y] >>= _) _ _ _ from wpAny_bind (wpAny_newTuple (wpAny_pure fin)))
theorem zo_next_item {z TI TO i1 i2 l1 l2 T : Addr} {k1 k2 : Nat} {f1 : Bool} {oT : Obj} {xs ys : Array Value} {x y : Value} {Q : Value → Shared → Prop}
    (D : ZipApart z TI TO i1 i2 l1 l2) (hz : ZipO s.heap z TI TO (rawInt T) f1) (hT : s.heap.get? T = some oT) (hTI : IsPair s.heap TI (.ref i1) (.ref i2)) (it1 : s.heap.IsListIter i1 l1 k1) (it2 : s.heap.IsListIter i2 l2 k2)
    (sq1 : s.heap.IsList l1 xs) (sq2 : s.heap.IsList l2 ys) (ex : xs[k1]? = some x) (ey : ys[k2]? = some y)
    (fin : ∀ hC, ZipO hC z TI TO (rawInt T) true → hC.IsListIter i1 l1 (k1 + 1) → hC.IsListIter i2 l2 (k2 + 1) → IsPair hC s.heap.objs.size x y →
      (∀ b ob, b ≠ z → b ≠ i1 → b ≠ i2 → s.heap.get? b = some ob → hC.get? b = some ob) → Q (.ref s.heap.objs.size) { s with heap := hC }) :
    wpAny (model prog w) A (Builtin.«zip.__next__» ⟨[.ref z], []⟩) (fun r t => ∃ v, r = .done (.ret v) ∧ Q v t) E s := by
  refine zip_turn hz hT hTI fun hA zA same => wpAny_nextOf_list_item (it1.extBut same.extBut D.i1z) (sq1.extBut same.extBut D.l1z) ex fun hB b1 sB => ?_
  refine wpAny_nextOf_list_item ((it2.extBut same.extBut D.i2z).extBut sB.extBut D.i12.symm) ((sq2.extBut same.extBut D.l2z).extBut sB.extBut D.l2i1) ey fun hC c2 sC => ⟨_, rfl, ?_⟩
  have size : hC.objs.size = s.heap.objs.size := sC.1.trans (sB.1.trans same.1)
  have pair : IsPair (hC.push { cls := .type "tuple", data := .seq #[x, y] }) hC.objs.size x y := Heap.get?_push_size _ rfl
  have up : ∀ {b : Addr} {ob : Obj}, hC.get? b = some ob → (hC.push { cls := .type "tuple", data := .seq #[x, y] }).get? b = some ob := fun e => Heap.get?_push_of_some _ e
  show Q (.ref hC.objs.size) _
  rw [size] at pair ⊢
  exact fin _ (up (sC.extBut _ _ D.i2z.symm (sB.extBut _ _ D.i1z.symm zA))) ((b1.extBut sC.extBut D.i12).at fun _ e => up e) (c2.at fun _ e => up e) pair fun b ob n1 n2 n3 e => up (sC.extBut _ _ n3 (sB.extBut _ _ n2 (same.extBut _ _ n1 e)))

theorem zo_next_end {z TI TO i1 i2 l1 l2 T : Addr} {k1 k2 : Nat} {f1 : Bool} {oT : Obj} {xs ys : Array Value} {Q : Fin → Shared → Prop} (calm : A.handled = none) (D : ZipApart z TI TO i1 i2 l1 l2) (hz : ZipO s.heap z TI TO (rawInt T) f1)
    (hT : s.heap.get? T = some oT) (hTI : IsPair s.heap TI (.ref i1) (.ref i2)) (it1 : s.heap.IsListIter i1 l1 k1) (it2 : s.heap.IsListIter i2 l2 k2) (sq1 : s.heap.IsList l1 xs) (sq2 : s.heap.IsList l2 ys) (stop : xs[k1]? = none ∨ ys[k2]? = none)
    (out : ∀ hC e, (∀ b ob, b ≠ z → b ≠ i1 → b ≠ i2 → s.heap.get? b = some ob → hC.get? b = some ob) → (∃ ob, hC.get? e = some ob ∧ ob.cls = .type "StopIteration") → E (.ref e) { s with heap := hC }) :
    wpAny (model prog w) A (Builtin.«zip.__next__» ⟨[Value.ref z], []⟩) Q E s := by
  refine zip_turn hz hT hTI fun hA zA same => ?_
  have a1 := it1.extBut same.extBut D.i1z
  have q1 := sq1.extBut same.extBut D.l1z
  match ex : xs[k1]? with
  | none => exact wpAny_nextOf_list_end calm a1 q1 ex fun hB e sB he => out hB e (fun b ob n1 n2 _ q => sB _ _ n2 (same.extBut _ _ n1 q)) he
  | some x =>
    have ey : ys[k2]? = none := stop.resolve_left fun q => by rw [ex] at q; cases q
    refine wpAny_nextOf_list_item a1 q1 ex fun hB b1 sB => ?_
    exact wpAny_nextOf_list_end calm ((it2.extBut same.extBut D.i2z).extBut sB.extBut D.i12.symm) ((sq2.extBut same.extBut D.l2z).extBut sB.extBut D.l2i1) ey fun hC e sC he => out hC e (fun b ob n1 n2 n3 q => sC _ _ n3 (sB.extBut _ _ n2 (same.extBut _ _ n1 q))) he

/-- the zip object ahead of its i-th turn, where what it hands out is kept -/
def ZSt (h : Heap) (z TI TO i1 i2 l1 l2 S : Addr) (i : Nat) : Prop :=
  IsPair h TI (.ref i1) (.ref i2) ∧ h.IsListIter i1 l1 i ∧ h.IsListIter i2 l2 i ∧
    ((IsZip h z TI TO .none ∧ ∃ a b, IsPair h TO a b) ∨
      ∃ (T : Addr) (f1 : Bool) (oT : Obj), ZipO h z TI TO (rawInt T) f1 ∧ h.get? T = some oT ∧ T ≠ z ∧ T ≠ i1 ∧ T ≠ i2 ∧ T ≠ S)
theorem ZSt.stays {h h' : Heap} {z TI TO i1 i2 l1 l2 S : Addr} {i : Nat} (st : ZSt h z TI TO i1 i2 l1 l2 S i) (k : ∀ b o, b ≠ S → h.get? b = some o → h'.get? b = some o)
    (zS : z ≠ S) (tS : TI ≠ S) (oS : TO ≠ S) (s1 : i1 ≠ S) (s2 : i2 ≠ S) : ZSt h' z TI TO i1 i2 l1 l2 S i := by
  obtain ⟨a, b, c, d⟩ := st
  refine ⟨k _ _ tS a, b.at fun o e => k _ _ s1 e, c.at fun o e => k _ _ s2 e, ?_⟩
  rcases d with ⟨d, x, y, e⟩ | ⟨T, f1, oT, d, e, n1, n2, n3, n4⟩
  · exact .inl ⟨k _ _ zS d, x, y, k _ _ oS e⟩
  · exact .inr ⟨T, f1, oT, k _ _ zS d, k _ _ n4 e, n1, n2, n3, n4⟩
theorem zs_item {z TI TO i1 i2 l1 l2 S : Addr} {i : Nat} {xs ys : Array Value} {x y : Value} {Q : Option Value → Shared → Prop}
    (D : ZipApart z TI TO i1 i2 l1 l2) (st : ZSt s.heap z TI TO i1 i2 l1 l2 S i) (hl1 : s.heap.IsList l1 xs) (hl2 : s.heap.IsList l2 ys) (hx : xs[i]? = some x) (hy : ys[i]? = some y)
    (hS : S < s.heap.objs.size)
    (hQ : ∀ h', ZSt h' z TI TO i1 i2 l1 l2 S (i + 1) → IsPair h' s.heap.objs.size x y →
      (∀ b ob, b ≠ z → b ≠ TO → b ≠ i1 → b ≠ i2 → s.heap.get? b = some ob → h'.get? b = some ob) → Q (some (.ref s.heap.objs.size)) { s with heap := h' }) : wpAny (model prog w) A (pyNext (.ref z)) Q E s := by
  obtain ⟨hTI, h1, h2, d⟩ := st
  have lt : ∀ {c : Addr} {o : Obj}, s.heap.get? c = some o → s.heap.objs.size ≠ c := fun e => Nat.ne_of_gt (Heap.lt_size e)
  have n1 : s.heap.objs.size ≠ i1 := by
    obtain ⟨_, e, _⟩ := id h1
    exact lt e
  have n2 : s.heap.objs.size ≠ i2 := by
    obtain ⟨_, e, _⟩ := id h2
    exact lt e
  rcases d with ⟨hz, a, b, hTO⟩ | ⟨T, f1, oT, hz, hT, m1, m2, m3, m4⟩
  · refine wpAny_pyNext_zip_item D hz hTI hTO h1 h2 hl1 hl2 hx hy fun h' z' to' i1' i2' pr sz k => ?_
    exact hQ h' ⟨k _ _ D.TIz D.TITO D.TIi1 D.TIi2 hTI, i1', i2', .inr ⟨s.heap.objs.size, false, _, z', pr, lt hz, n1, n2, Nat.ne_of_gt hS⟩⟩ pr k
  · have ty : s.TypeIs (.ref z) "zip" := ⟨_, hz, rfl⟩
    unfold pyNext
    refine wpAny_bind (wpAny_attempt (wpAny_callSpecial?_slot (name := Str.ofString "__next__") ty F.slot_zip_next (wpAny_call_entry F.slot_zip_next ty F.entry_zip_next ?_ (F.args_zip_next_1 _))))
    refine zo_next_item D hz hT hTI h1 h2 hl1 hl2 hx hy fun h' z' i1' i2' pr k => wpAny_pure ?_
    exact hQ h' ⟨k _ _ D.TIz D.TIi1 D.TIi2 hTI, i1', i2', .inr ⟨T, true, _, z', k _ _ m1 m2 m3 hT, m1, m2, m3, m4⟩⟩ pr fun c o q1 _ q3 q4 e => k c o q1 q3 q4 e
theorem zs_end {z TI TO i1 i2 l1 l2 S : Addr} {i : Nat} {xs ys : Array Value} {Q : Option Value → Shared → Prop} (hh : A.handled = none)
    (D : ZipApart z TI TO i1 i2 l1 l2) (st : ZSt s.heap z TI TO i1 i2 l1 l2 S i) (hl1 : s.heap.IsList l1 xs) (hl2 : s.heap.IsList l2 ys) (stop : xs[i]? = none ∨ ys[i]? = none)
    (hQ : ∀ h', (∀ b ob, b ≠ z → b ≠ TO → b ≠ i1 → b ≠ i2 → s.heap.get? b = some ob → h'.get? b = some ob) → Q none { s with heap := h' }) : wpAny (model prog w) A (pyNext (.ref z)) Q E s := by
  obtain ⟨hTI, h1, h2, d⟩ := st
  rcases d with ⟨hz, a, b, hTO⟩ | ⟨T, f1, oT, hz, hT, m1, m2, m3, m4⟩
  · exact wpAny_pyNext_zip_end hh D hz hTI hTO h1 h2 hl1 hl2 stop hQ
  · have ty : s.TypeIs (.ref z) "zip" := ⟨_, hz, rfl⟩
    unfold pyNext
    refine wpAny_bind (wpAny_attempt (wpAny_callSpecial?_slot (name := Str.ofString "__next__") ty F.slot_zip_next (wpAny_call_entry F.slot_zip_next ty F.entry_zip_next ?_ (F.args_zip_next_1 _))))
    refine zo_next_end hh D hz hT hTI h1 h2 hl1 hl2 stop fun h' e k he => ?_
    exact wpAny_bind (wpAny_isInstance (T := "StopIteration") (b := true) he isSubtype_stop (wpAny_pure (hQ _ fun c o q1 _ q3 q4 e => k c o q1 q3 q4 e)))
end

/-- the pairs that were made, above lo, one behind the other -/
structure ZG (xs ys : Array Value) (lo : Addr) (h : Heap) (as : List Addr) : Prop where
  rise : as.Pairwise (· < ·)
  above : ∀ a ∈ as, lo < a
  pairs : ∀ (j : Nat) (a : Addr), as[j]? = some a → ∃ x y, xs[j]? = some x ∧ ys[j]? = some y ∧ IsPair h a x y
theorem ZG.there {xs ys : Array Value} {lo : Addr} {h : Heap} {as : List Addr} (g : ZG xs ys lo h as) {a : Addr} (ha : a ∈ as) : a < h.objs.size := by
  obtain ⟨j, at_j⟩ := List.mem_iff_getElem?.mp ha
  obtain ⟨_, _, _, _, e⟩ := g.pairs j a at_j
  exact Heap.lt_size e
/-- list.extend's loop, entered -/
theorem extend_in {prog : Program} {w : World} {A : Around} {R : Result → Shared → Prop} {s : Shared} {S z : Addr} {res : Value}
    (h : wpAny (model prog w) A.in1 (Builtin.«list.extend.loop» ⟨[.ref S, .ref z, res], []⟩) (fun r t => match r with | .done f => R (.ok f) t | .again c => c.quiet = true ∧ codeAny (model prog w) A c R t) (fun e t => R (.error e) t) s) :
    codeAny (model prog w) A (.builtin "list.extend.loop" ⟨[.ref S, .ref z, res], []⟩) R s :=
  codeAny_builtin PySem.F.entry_extend_loop ((Around.under_plainId PySem.F.plain_extend_loop _).symm ▸ h)
section
variable {prog : Program} {w : World} {A : Around} {s : Shared} {R : Result → Shared → Prop} {xs ys : Array Value}
theorem zl_loop {z TI TO i1 i2 l1 l2 S : Addr} {n : Nat} (hn : n = min xs.size ys.size) (hh : A.handled = none) (D : ZipApart z TI TO i1 i2 l1 l2)
    (zS : z < S) (tS : TI < S) (oS : TO < S) (s1 : i1 < S) (s2 : i2 < S) (l1S : l1 < S) (l2S : l2 < S) (small : n ≤ sizeLine) (res : Value) {h₁ : Heap}
    (hR : ∀ h' tk acc c as, (∀ b o, b ≠ S → b ≠ z → b ≠ TO → b ≠ i1 → b ≠ i2 → h₁.get? b = some o → h'.get? b = some o) →
      h'.get? S = some { cls := .type "list", dict := none, data := .seq acc c, slots := #[] } → as.length = n → ZG xs ys S h' as → acc.toList = as.map Value.ref → R (.ok (.ret res)) { s with heap := h', toks := tk }) :
    ∀ (k i : Nat) (h : Heap) (tk c : Nat) (acc : Array Value) (as : List Addr), n - i = k → i ≤ n → ZSt h z TI TO i1 i2 l1 l2 S i → h.IsList l1 xs → h.IsList l2 ys →
      (∀ b o, b ≠ S → b ≠ z → b ≠ TO → b ≠ i1 → b ≠ i2 → h₁.get? b = some o → h.get? b = some o) →
      h.get? S = some { cls := .type "list", dict := none, data := .seq acc c, slots := #[] } → acc.toList = as.map Value.ref → as.length = i → ZG xs ys S h as →
      codeAny (model prog w) A (.builtin "list.extend.loop" ⟨[.ref S, .ref z, res], []⟩) R { s with heap := h, toks := tk } := by
  intro k
  induction k with
  | zero =>
    intro i h tk c acc as hk hi st L1 L2 keep hS hacc hal G
    have hin : i = n := by omega
    refine extend_in ?_
    have stop : xs[i]? = none ∨ ys[i]? = none := by
      rcases Nat.le_total xs.size ys.size with q | q
      · exact .inl (Array.getElem?_eq_none (by rw [hin, hn, Nat.min_eq_left q]; exact Nat.le_refl _))
      · exact .inr (Array.getElem?_eq_none (by rw [hin, hn, Nat.min_eq_right q]; exact Nat.le_refl _))
    refine wpAny_bind (zs_end (s := { s with heap := h, toks := tk }) (A := A.in1) hh D st L1 L2 stop fun h' he => ?_)
    refine wpAny_pure (hR h' tk acc c as (fun b o q0 q1 q2 q3 q4 e => he b o q1 q2 q3 q4 (keep b o q0 q1 q2 q3 q4 e)) (he S _ (Nat.ne_of_gt zS) (Nat.ne_of_gt oS) (Nat.ne_of_gt s1) (Nat.ne_of_gt s2) hS) (by omega) ⟨G.rise, G.above, fun j a hj => ?_⟩ hacc)
    obtain ⟨x, y, e1, e2, e3⟩ := G.pairs j a hj
    have up := G.above a (List.mem_of_getElem? hj)
    exact ⟨x, y, e1, e2, he a _ (Nat.ne_of_gt (Nat.lt_trans zS up)) (Nat.ne_of_gt (Nat.lt_trans oS up)) (Nat.ne_of_gt (Nat.lt_trans s1 up)) (Nat.ne_of_gt (Nat.lt_trans s2 up)) e3⟩
  | succ k ih =>
    intro i h tk c acc as hk hi st L1 L2 keep hS hacc hal G
    have hlt : i < n := by omega
    have hix : i < xs.size := by
      have := Nat.min_le_left xs.size ys.size
      omega
    have hiy : i < ys.size := by
      have := Nat.min_le_right xs.size ys.size
      omega
    have hsz : acc.size = i := Eq.trans (by rw [← Array.length_toList, hacc, List.length_map]) hal
    have hSl : S < _ := Heap.lt_size hS
    refine extend_in ?_
    refine wpAny_bind (zs_item (s := { s with heap := h, toks := tk }) D st L1 L2 (Array.getElem?_eq_getElem hix) (Array.getElem?_eq_getElem hiy) hSl fun h' st' pr hkp => ?_)
    dsimp only at pr hkp ⊢
    have hS' := hkp S _ (Nat.ne_of_gt zS) (Nat.ne_of_gt oS) (Nat.ne_of_gt s1) (Nat.ne_of_gt s2) hS
    have up : ∀ c ob, c ≠ S → h'.get? c = some ob → (h'.update S (Obj.mapSeq (·.push (Value.ref h.objs.size)))).get? c = some ob := fun _ _ ne e => (Heap.get?_update_other _ _ ne.symm).trans e
    have apart : ∀ {a : Addr}, S < a → a ≠ z ∧ a ≠ TO ∧ a ≠ i1 ∧ a ≠ i2 := fun q =>
      ⟨Nat.ne_of_gt (Nat.lt_trans zS q), Nat.ne_of_gt (Nat.lt_trans oS q), Nat.ne_of_gt (Nat.lt_trans s1 q), Nat.ne_of_gt (Nat.lt_trans s2 q)⟩
    refine (show wpAny _ A.in1 (updateSeq S (·.push (Value.ref h.objs.size)) >>= _) _ _ _ from wpAny_bind ?_)
    refine wpAny_updateSeq hS' rfl (wpAny_pure ⟨plainId_quiet PySem.F.plain_extend_loop _, ih (i + 1) _ tk _ (acc.push (Value.ref h.objs.size)) (as ++ [h.objs.size]) (by omega) hlt
      (st'.stays up (Nat.ne_of_lt zS) (Nat.ne_of_lt tS) (Nat.ne_of_lt oS) (Nat.ne_of_lt s1) (Nat.ne_of_lt s2))
      (L1.at fun o e => up l1 o (Nat.ne_of_lt l1S) (hkp l1 o D.l1z D.l1TO D.l1i1 D.l1i2 e)) (L2.at fun o e => up l2 o (Nat.ne_of_lt l2S) (hkp l2 o D.l2z D.l2TO D.l2i1 D.l2i2 e))
      (fun b o q0 q1 q2 q3 q4 e => up b o q0 (hkp b o q1 q2 q3 q4 (keep b o q0 q1 q2 q3 q4 e))) (Heap.get?_update_self _ hS' rfl) (by rw [Array.toList_push, hacc, List.map_append]; rfl) (by rw [List.length_append, hal]; rfl) ⟨?_, ?_, ?_⟩⟩)
      (by rw [hsz]; omega) (by show (acc.push (Value.ref h.objs.size)).size ≤ sizeLine + 1; rw [Array.size_push, hsz]; omega)
    · refine List.pairwise_append.mpr ⟨G.rise, List.pairwise_singleton _ _, fun a ha b hb => ?_⟩
      rw [List.mem_singleton.mp hb]
      exact G.there ha
    · intro a ha
      exact (List.mem_append.mp ha).elim (G.above a) fun q => (List.mem_singleton.mp q) ▸ hSl
    · intro j b hj
      rcases Nat.lt_trichotomy j as.length with lt | h1 | gt
      · rw [List.getElem?_append_left lt] at hj
        obtain ⟨x', y', e1, e2, e3⟩ := G.pairs j b hj
        have hb := G.above b (List.mem_of_getElem? hj)
        obtain ⟨q1, q2, q3, q4⟩ := apart hb
        exact ⟨x', y', e1, e2, up b _ (Nat.ne_of_gt hb) (hkp b _ q1 q2 q3 q4 e3)⟩
      · subst h1
        obtain rfl : _ = b := Option.some.inj (by simpa using hj)
        exact ⟨_, _, by rw [hal]; exact Array.getElem?_eq_getElem hix, by rw [hal]; exact Array.getElem?_eq_getElem hiy, up _ _ (Nat.ne_of_gt hSl) pr⟩
      · rw [List.getElem?_eq_none (by rw [List.length_append, List.length_singleton]; omega)] at hj
        cases hj
end
end Kz
set_option Elab.async false
set_option linter.all false
set_option maxRecDepth 100000
set_option maxHeartbeats 1000000
namespace Kz
open PySem
open PySem.Sem (wp)
theorem noLen : typeLookup (.type "zip") "__len__" = pure none := by rw [typeLookup_type, builtinLookup_eq_fast]; kernel_rfl
theorem noHint : typeLookup (.type "zip") "__length_hint__" = pure none := by rw [typeLookup_type, builtinLookup_eq_fast]; kernel_rfl
section
variable {prog : Program} {w : World} {A : Around} {E : Value → Shared → Prop} {s : Shared} {xs ys : Array Value}
theorem zl_extend {R : Result → Shared → Prop} {z TI TO i1 i2 l1 l2 S : Addr} {n : Nat} (hn : n = min xs.size ys.size) (hh : A.handled = none) (D : ZipApart z TI TO i1 i2 l1 l2)
    (zS : z < S) (tS : TI < S) (oS : TO < S) (s1 : i1 < S) (s2 : i2 < S) (l1S : l1 < S) (l2S : l2 < S) (small : n ≤ sizeLine) (res : Value) (c₀ : Nat)
    (st : ZSt s.heap z TI TO i1 i2 l1 l2 S 0) (hz0 : ∃ f0, IsZip s.heap z TI TO f0) (L1 : s.heap.IsList l1 xs) (L2 : s.heap.IsList l2 ys) (hS : s.heap.get? S = some { cls := .type "list", data := .seq #[] c₀ })
    (hR : ∀ h' tk acc c as, (∀ b o, b ≠ S → b ≠ z → b ≠ TO → b ≠ i1 → b ≠ i2 → s.heap.get? b = some o → h'.get? b = some o) →
      h'.get? S = some { cls := .type "list", dict := none, data := .seq acc c, slots := #[] } → as.length = n → ZG xs ys S h' as → acc.toList = as.map Value.ref → R (.ok (.ret res)) { s with heap := h', toks := tk }) :
    wpAny (model prog w) A.in1 (Builtin.List.listExtendWith (.ref S) (.ref z) res)
      (fun r t => match r with | .done f => R (.ok f) t | .again c => c.quiet = true ∧ codeAny (model prog w) A c R t) (fun e t => R (.error e) t) s := by
  obtain ⟨f0, hz⟩ := hz0
  have ty : s.TypeIs (.ref z) "zip" := ⟨_, hz, rfl⟩
  rw [Builtin.List.listExtendWith]
  refine wpAny_bind (wpAny_typeOf ty ?_)
  have q1 : Builtin.List.listSameRef (.ref S) (.ref z) = false := by simp [Builtin.List.listSameRef, Nat.ne_of_gt zS]
  have q2 : (Value.type "zip" == Value.type "list") = false := by decide
  have q3 : (Value.type "zip" == Value.type "tuple") = false := by decide
  simp only [q1, q2, q3, Bool.or_false, Bool.false_eq_true, if_false]
  refine wpAny_bind (wpAny_pyIter_zip hz (wpAny_bind (wpAny_holding ?_)))
  rw [Builtin.List.listLengthHint]
  refine wpAny_bind (wpAny_specialOf ty noLen ?_)
  show wpAny _ A.in1 (specialOf (Value.ref z) (Str.ofString "__length_hint__") >>= _) _ _ _
  refine wpAny_bind (wpAny_specialOf ty noHint ?_)
  refine wpAny_pure ?_
  show wpAny _ A.in1 (rule "list.extend.makes-room" >>= fun _ => Builtin.List.listTouch (.ref S) >>= fun _ => again (.builtin "list.extend.loop" ⟨[.ref S, .ref z, res], []⟩)) _ _ _
  have longer := Heap.get?_update_self (Obj.mapSeq (·.push Value.none)) hS rfl
  have hS₃ := Heap.get?_update_self (Obj.mapSeq (·.pop)) longer rfl
  have oth : ∀ c ob, c ≠ S → s.heap.get? c = some ob → ((s.heap.update S (Obj.mapSeq (·.push Value.none))).update S (Obj.mapSeq (·.pop))).get? c = some ob := fun _ _ ne e =>
    (Heap.get?_update_other _ _ ne.symm).trans ((Heap.get?_update_other _ _ ne.symm).trans e)
  refine wpAny_bind (wpAny_rule (wpAny_bind (show wpAny _ A.in1 (updateSeq S (·.push .none) >>= fun _ => updateSeq S (·.pop)) _ _ _ from wpAny_bind (wpAny_updateSeq hS rfl (wpAny_updateSeq (hz := by seq_fits) longer rfl ?_)))))
  refine wpAny_pure ⟨plainId_quiet PySem.F.plain_extend_loop _, ?_⟩
  exact zl_loop (s := s) (h₁ := s.heap) hn hh D zS tS oS s1 s2 l1S l2S small res hR n 0 _ s.toks _ #[] [] (Nat.sub_zero _) (Nat.zero_le _)
    (st.stays oth (Nat.ne_of_lt zS) (Nat.ne_of_lt tS) (Nat.ne_of_lt oS) (Nat.ne_of_lt s1) (Nat.ne_of_lt s2)) (L1.at fun o e => oth _ o (Nat.ne_of_lt l1S) e) (L2.at fun o e => oth _ o (Nat.ne_of_lt l2S) e)
    (fun b o q0 _ _ _ _ e => oth b o q0 e) hS₃ rfl rfl ⟨List.Pairwise.nil, (fun _ ha => nomatch ha), (fun j a hj => by simp at hj)⟩
theorem zl_init {R : Result → Shared → Prop} {z TI TO i1 i2 l1 l2 S : Addr} {n : Nat} (hn : n = min xs.size ys.size) (hh : A.handled = none) (D : ZipApart z TI TO i1 i2 l1 l2)
    (zS : z < S) (tS : TI < S) (oS : TO < S) (s1 : i1 < S) (s2 : i2 < S) (l1S : l1 < S) (l2S : l2 < S) (small : n ≤ sizeLine)
    (st : ZSt s.heap z TI TO i1 i2 l1 l2 S 0) (hz0 : ∃ f0, IsZip s.heap z TI TO f0) (L1 : s.heap.IsList l1 xs) (L2 : s.heap.IsList l2 ys) (hS : s.heap.get? S = some { cls := .type "list", data := .seq #[] })
    (hR : ∀ h' tk acc c as, (∀ b o, b ≠ S → b ≠ z → b ≠ TO → b ≠ i1 → b ≠ i2 → s.heap.get? b = some o → h'.get? b = some o) →
      h'.get? S = some { cls := .type "list", dict := none, data := .seq acc c, slots := #[] } → as.length = n → ZG xs ys S h' as → acc.toList = as.map Value.ref → R (.ok (.ret .none)) { s with heap := h', toks := tk }) :
    wpAny (model prog w) A.in1 (Builtin.«list.__init__» ⟨[.ref S, .ref z], []⟩)
      (fun r t => match r with | .done f => R (.ok f) t | .again c => c.quiet = true ∧ codeAny (model prog w) A c R t) (fun e t => R (.error e) t) s := by
  obtain ⟨f0, hz⟩ := hz0
  show wpAny _ _ (do let old ← Builtin.List.listItems (.ref S); Builtin.List.listUpdate (.ref S) (fun _ => #[]); letGo old.toList.reverse; Builtin.List.listExtendWith (.ref S) (.ref z) .none) _ _ s
  refine wpAny_bind ?_
  rw [Builtin.List.listItems]
  refine wpAny_bind (wpAny_seqItems hS rfl (wpAny_pure (show wpAny _ _ (_ >>= _) _ _ s from ?_)))
  show wpAny _ _ (updateSeq S (fun _ => #[]) >>= fun _ => letGo (#[] : Array Value).toList.reverse >>= fun _ => Builtin.List.listExtendWith (.ref S) (.ref z) .none) _ _ s
  have bare := Heap.get?_update_self (Obj.mapSeq (fun _ => (#[] : Array Value))) hS rfl
  have oth : ∀ c ob, c ≠ S → s.heap.get? c = some ob → (s.heap.update S (Obj.mapSeq (fun _ => (#[] : Array Value)))).get? c = some ob := fun _ _ ne e => (Heap.get?_update_other _ _ ne.symm).trans e
  refine wpAny_bind (wpAny_updateSeq hS rfl (wpAny_bind (wpAny_letGo ?_)))
  exact zl_extend (s := { s with heap := s.heap.update S (Obj.mapSeq (fun _ => (#[] : Array Value))) }) hn hh D zS tS oS s1 s2 l1S l2S small .none _
    (st.stays oth (Nat.ne_of_lt zS) (Nat.ne_of_lt tS) (Nat.ne_of_lt oS) (Nat.ne_of_lt s1) (Nat.ne_of_lt s2)) ⟨f0, oth _ _ (Nat.ne_of_lt zS) hz⟩
    (L1.at fun o e => oth _ o (Nat.ne_of_lt l1S) e) (L2.at fun o e => oth _ o (Nat.ne_of_lt l2S) e) bare
    fun h' tk acc c as k => hR h' tk acc c as fun b o q0 q1 q2 q3 q4 e => k b o q0 q1 q2 q3 q4 (oth b o q0 e)
/-- list(z), z a zip object of two lists that was just made -/
theorem zl_call {z TI TO i1 i2 l1 l2 : Addr} {n : Nat} {Q : Value → Shared → Prop} (hn : n = min xs.size ys.size) (hh : A.handled = none) (D : ZipApart z TI TO i1 i2 l1 l2)
    (small : n ≤ sizeLine) (hz : IsZip s.heap z TI TO .none) (hTI : IsPair s.heap TI (.ref i1) (.ref i2)) (hTO : IsPair s.heap TO .none .none)
    (h1 : s.heap.IsListIter i1 l1 0) (h2 : s.heap.IsListIter i2 l2 0) (L1 : s.heap.IsList l1 xs) (L2 : s.heap.IsList l2 ys)
    (hQ : ∀ h' tk acc c as, (∀ b o, b ≠ z → b ≠ TO → b ≠ i1 → b ≠ i2 → s.heap.get? b = some o → h'.get? b = some o) →
      h'.get? s.heap.objs.size = some { cls := .type "list", dict := none, data := .seq acc c, slots := #[] } → as.length = n → ZG xs ys s.heap.objs.size h' as → acc.toList = as.map Value.ref → Q (.ref s.heap.objs.size) { s with heap := h', toks := tk }) :
    wpAny (model prog w) A (call (.type "list") [.ref z]) Q E s := by
  refine callType_codes (Q₁ := fun v t => v = .ref s.heap.objs.size ∧ t = { s with heap := s.heap.push { cls := .type "list", data := .seq #[] } }) PySem.F.called_list (PySem.F.typeCall_list_1 _) PySem.F.entry_list_init
    (code_list_new _ ⟨rfl, rfl⟩) fun v t got => ?_
  obtain ⟨rfl, rfl⟩ := got
  have hS : (Heap.push s.heap { cls := .type "list", data := .seq #[] }).get? s.heap.objs.size = some { cls := .type "list", data := .seq #[] } := Heap.get?_push_size _ rfl
  have up : ∀ {b : Addr} {o : Obj}, s.heap.get? b = some o → (s.heap.push { cls := .type "list", data := .seq #[] }).get? b = some o := fun e => Heap.get?_push_of_some _ e
  have b1 : i1 < s.heap.objs.size := by
    obtain ⟨_, e, _⟩ := id h1
    exact Heap.lt_size e
  have b2 : i2 < s.heap.objs.size := by
    obtain ⟨_, e, _⟩ := id h2
    exact Heap.lt_size e
  have c1 : l1 < s.heap.objs.size := by
    obtain ⟨_, e, _⟩ := id L1
    exact Heap.lt_size e
  have c2 : l2 < s.heap.objs.size := by
    obtain ⟨_, e, _⟩ := id L2
    exact Heap.lt_size e
  refine ⟨⟨_, hS, rfl⟩, PySem.F.args_list_init_2 _ _, zl_init (s := { s with heap := s.heap.push { cls := .type "list", data := .seq #[] } }) (A := A.in1) hn hh D (Heap.lt_size hz) (Heap.lt_size hTI) (Heap.lt_size hTO) b1 b2 c1 c2 small
    ⟨up hTI, h1.at fun o e => up e, h2.at fun o e => up e, .inl ⟨up hz, _, _, up hTO⟩⟩ ⟨_, up hz⟩ (L1.at fun o e => up e) (L2.at fun o e => up e) hS fun h' tk acc c as k hS' hl G hacc => ?_⟩
  exact ⟨rfl, hQ h' tk acc c as (fun b o q1 q2 q3 q4 e => k b o (Nat.ne_of_lt (Heap.lt_size e)) q1 q2 q3 q4 (up e)) hS' hl G hacc⟩
end
end Kz
set_option Elab.async false
set_option linter.all false
set_option maxRecDepth 100000
set_option maxHeartbeats 1000000
namespace Kz
open PySem PySem.Spec PyProof.Rows L2
/-- pairs tracked at their addresses -/
def putP : Hp → List Addr → List (V × V) → Hp
  | H, a :: as, p :: ps => putP (upd H a (.tup [p.1, p.2])) as ps
  | H, _, _ => H
theorem putP_off {b : Addr} : ∀ (as : List Addr) (ps : List (V × V)) (H : Hp), b ∉ as → putP H as ps b = H b
  | [], _, _, _ => rfl
  | _ :: _, [], _, _ => rfl
  | a :: as, p :: ps, H, no => by
    show putP (upd H a (.tup [p.1, p.2])) as ps b = H b
    have n1 : b ∉ as := fun z => no (List.mem_cons_of_mem _ z)
    have n2 : b ≠ a := fun z => no (by rw [z]; exact List.mem_cons_self)
    rw [putP_off as ps _ n1, upd_ne n2]
theorem putP_at : ∀ (as : List Addr) (ps : List (V × V)) (H : Hp), as.Nodup → ∀ (j : Nat) (a : Addr) (p : V × V), as[j]? = some a → ps[j]? = some p → putP H as ps a = some (.tup [p.1, p.2])
  | [], _, _, _, j, a, p, h, _ => by simp at h
  | _ :: _, [], _, _, j, a, p, _, h => by simp at h
  | a :: as, p :: ps, H, nd, 0, b, q, h1, h2 => by
    cases Option.some.inj h1
    cases Option.some.inj h2
    show putP (upd H a (.tup [p.1, p.2])) as ps a = _
    rw [putP_off as ps _ (List.nodup_cons.mp nd).1, upd_same]
  | a :: as, p :: ps, H, nd, j + 1, b, q, h1, h2 => putP_at as ps _ (List.nodup_cons.mp nd).2 j b q h1 h2
/-- list(zip(xs, ys)): a new list of new pairs -/
def rLZ (K : PySem.W.Frag) : List V → Hp → VK → Prop := fun vs H Q => ∃ (a b : Addr) (xs ys : List V), vs = [.ref a, .ref b] ∧ SqL K H a xs ∧ SqL K H b ys ∧
  ∀ (H' : Hp) (l : Addr) (ts : List Addr), (∀ b o, H b = some o → H' b = some o) → H l = none → (∀ t ∈ ts, H t = none) → H' l = some (.lst (ts.map V.ref)) → ts.length = min xs.length ys.length →
    (∀ (j : Nat) (t : Addr), ts[j]? = some t → ∃ x y, xs[j]? = some x ∧ ys[j]? = some y ∧ H' t = some (.tup [x, y])) → Q (.ref l) H'
def tLZ (K : PySem.W.Frag) (ta : TA) : TE := fun σ H Q => ta σ H fun vs H1 => rLZ K vs H1 Q
section
variable {X : Cx} {e1 e2 : Expr} {ta : TA} {p p2 pos pos2 : Pos}
theorem pairs_laid {pins : List (Addr × Obj)} {σ : L2.St} {H : Hp} {s : Shared} {h' : Heap} {tk : Nat} {S : Addr} {xs ys : List V} {us ws : List Value} {acc : Array Value} {c : Nat} {as : List Addr}
    (I : Inv X pins σ H s) (rx : Vals xs us) (ry : Vals ys ws) (low : s.heap.objs.size ≤ S) (small : as.length ≤ sizeLine)
    (k : ∀ b o, s.heap.get? b = some o → h'.get? b = some o) (hS : h'.get? S = some { cls := .type "list", dict := none, data := .seq acc c, slots := #[] })
    (hl : as.length = min xs.length ys.length) (G : ZG us.toArray ws.toArray S h' as) (hacc : acc.toList = as.map Value.ref) :
    ∃ H' : Hp, (∀ b o, H b = some o → H' b = some o) ∧ H S = none ∧ (∀ t ∈ as, H t = none) ∧ H' S = some (.lst (as.map V.ref)) ∧
      (∀ (j : Nat) (t : Addr), as[j]? = some t → ∃ x y, xs[j]? = some x ∧ ys[j]? = some y ∧ H' t = some (.tup [x, y])) ∧ Inv X pins σ H' { s with heap := h', toks := tk } := by
  have nS : S ∉ as := fun z => Nat.lt_irrefl _ (G.above _ z)
  have nd : as.Nodup := List.Pairwise.imp (fun {a b} (h : a < b) => Nat.ne_of_lt h) G.rise
  have new : ∀ t ∈ as, H t = none := fun t ht => I.hok.fresh (Nat.le_trans low (Nat.le_of_lt (G.above t ht)))
  have newS : H S = none := I.hok.fresh low
  obtain ⟨H', eH⟩ : ∃ H', H' = putP (upd H S (.lst (as.map V.ref))) as (xs.zip ys) := ⟨_, rfl⟩
  have off : ∀ b, b ∉ as → b ≠ S → H' b = H b := fun b h1 h2 => by rw [eH, putP_off as _ _ h1, upd_ne h2]
  have atP : ∀ (j : Nat) (t : Addr), as[j]? = some t → ∃ x y, xs[j]? = some x ∧ ys[j]? = some y ∧ H' t = some (.tup [x, y]) := fun j t ht => by
    have hj : j < as.length := (List.getElem?_eq_some_iff.mp ht).1
    have jx : j < xs.length := by omega
    have jy : j < ys.length := by omega
    refine ⟨xs[j], ys[j], List.getElem?_eq_getElem jx, List.getElem?_eq_getElem jy, ?_⟩
    rw [eH]
    exact putP_at as (xs.zip ys) _ nd j t (xs[j], ys[j]) ht (by rw [List.getElem?_zip_eq_some]; exact ⟨List.getElem?_eq_getElem jx, List.getElem?_eq_getElem jy⟩)
  have kp : ∀ b u, H b = some u → H' b = some u := fun b u e => by
    exact (off b (fun z => by have y := new b z; rw [e] at y; cases y) (fun z => by have y := newS; rw [← z, e] at y; cases y)).trans e
  have eS : H' S = some (.lst (as.map V.ref)) := by rw [eH, putP_off as _ _ nS, upd_same]
  have lows : ∀ b o, s.heap.get? b = some o → b ∉ as ∧ b ≠ S := fun b o e => by
    have lt := Heap.lt_size e
    exact ⟨fun z => Nat.lt_irrefl _ (Nat.lt_trans (Nat.lt_of_lt_of_le lt low) (G.above b z)), Nat.ne_of_lt (Nat.lt_of_lt_of_le lt low)⟩
  refine ⟨H', kp, newS, new, eS, atP, ?_⟩
  refine I.call' (ch := []) rfl ⟨fun b o q _ _ _ => k b o q, fun b o q _ _ _ => ⟨o.slots, k b o q⟩, fun b o q n _ => ?_, fun b o q _ => ⟨o, k b o q⟩, fun b xs q => kp b _ q, fun b o u q => kp b _ q, fun b ps q => ⟨#[], by rw [kp b _ q]; simp⟩⟩ (fun b u q => ?_) I.bare fun b z => by simp at z
  · obtain ⟨z1, z2⟩ := lows b o q
    rw [off b z1 z2]
    exact n
  · by_cases hb : b ∈ as
    · obtain ⟨j, hj⟩ := List.mem_iff_getElem?.mp hb
      obtain ⟨x, y, e1, e2, e3⟩ := atP j b hj
      rw [e3] at q
      cases q
      obtain ⟨u, v, f1, f2, f3⟩ := G.pairs j b hj
      obtain ⟨u', g1, r1⟩ := rx.get e1
      obtain ⟨v', g2, r2⟩ := ry.get e2
      rw [List.getElem?_toArray] at f1 f2
      cases Option.some.inj (f1.symm.trans g1)
      cases Option.some.inj (f2.symm.trans g2)
      exact ⟨by show 2 ≤ sizeLine; decide, [u, v], .cons r1 (.cons r2 .nil), ⟨_, f3, rfl, _, rfl⟩⟩
    · by_cases hb2 : b = S
      · rw [hb2] at q ⊢
        rw [eS] at q
        cases q
        refine ⟨by rw [List.length_map]; omega, acc.toList, c, by rw [hacc]; exact LiI.vals_refs as, ?_⟩
        rw [Array.toArray_toList]
        exact hS
      · rw [off b hb hb2] at q
        exact (I.hok b u q).stay (fun d v _ y => k d v y) (fun d y => kp d _ y) fun d xs y => kp d _ y
theorem pe_listZip (hc : X.calm = true) (hg : Gl X "list") (hm : X.mg "list" = none) (hg2 : Gl X "zip") (hm2 : X.mg "zip" = none) (ha : PA X [e1, e2] ta)
    (hs2 : starEach [e1, e2] X.env = (false, eval e1 X.env) :: starEach [e2] X.env := by rfl) (hpl : (backTo pos2 (starEach [e2] X.env)).any (·.1) = false := by rfl)
    (hs : starEach [.Call (.Name "zip" p2) [e1, e2] [] pos2] X.env = (false, eval (.Call (.Name "zip" p2) [e1, e2] [] pos2) X.env) :: starEach [] X.env := by rfl) :
    PE X (.Call (.Name "list" p) [.Call (.Name "zip" p2) [e1, e2] [] pos2] [] pos) (tLZ X.K ta) := by
  refine ⟨fun pins s σ H Q I want => ?_⟩
  refine wpAny_Call_Name_kw (ld_blt I hg hm (show bootBuiltins "list" = some (.type "list") by decide +kernel) ?_)
  refine PyProof.Rows.callWith_type1 (rest := []) ?_ hs rfl
  rw [hs]
  show wpAny _ _ (spliced ((false, eval (.Call (.Name "zip" p2) [e1, e2] [] pos2) X.env) :: backTo pos (starEach [] X.env))) _ _ s
  refine Calls.spliced_cons ?_
  refine wpAny_Call_Name_kw (ld_blt I hg2 hm2 PyProof.Rows.boot_zip ?_)
  refine PyProof.Rows.callWith_type1 (thn (ha.run pos2 pins s σ H _ I want) fun us s1 ⟨vs, H1, I1, r1, q1⟩ => ?_) hs2 hpl
  obtain ⟨a, b, xs, ys, rfl, hqx, hqy, q⟩ := q1
  obtain ⟨u1, us1, rfl, ra, r2⟩ : ∃ u us', us = u :: us' ∧ RelV (.ref a) u ∧ Vals [.ref b] us' := by
    cases r1 with
    | cons r rr => exact ⟨_, _, rfl, r, rr⟩
  obtain ⟨u2, rfl, rb⟩ := vals1 r2
  cases ra
  cases rb
  obtain ⟨its, rv, p1, small1⟩ := I1.list hqx
  obtain ⟨its2, rv2, p2', small2⟩ := I1.list hqy
  have la : a < Array.size s1.heap.objs := p1.lt
  have lb : b < s1.heap.objs.size := p2'.lt
  have ln1 := rv.length
  have ln2 := rv2.length
  refine call_zip_2 p1.isList p2'.isList fun h' hz hTI hTO h1 h2 hsz k => ?_
  refine Calls.spliced_nil ?_
  have D := PySem.W.ktu_apart s1.heap.objs.size a b la lb
  have nn : min xs.length ys.length = min its.toArray.size its2.toArray.size := by rw [List.size_toArray, List.size_toArray, ln1, ln2]
  have sm : min xs.length ys.length ≤ sizeLine := Nat.le_trans (Nat.min_le_left _ _) small1
  refine zl_call (s := { s1 with heap := h' }) nn (I1.ok.hd hc) D sm hz hTI hTO h1 h2 (p1.isList.at fun o e => k _ o e) (p2'.isList.at fun o e => k _ o e) fun h2' tk acc c as k2 hS hl G hacc => ?_
  have kk : ∀ b o, s1.heap.get? b = some o → h2'.get? b = some o := fun b o e => by
    have lt := Heap.lt_size e
    have ne : ∀ i : Nat, b ≠ s1.heap.objs.size + i := fun i => Nat.ne_of_lt (Nat.lt_of_lt_of_le lt (Nat.le_add_right _ _))
    exact k2 b o (ne 4) (ne 3) (ne 0) (ne 1) (k b o e)
  have low : s1.heap.objs.size ≤ h'.objs.size := by rw [hsz]; exact Nat.le_add_right _ _
  obtain ⟨H', k1, n1, n2, g1, g2, J⟩ := pairs_laid (tk := tk) I1 rv rv2 low (by rw [hl]; exact sm) kk hS hl G hacc
  exact ⟨.ref _, H', J, rfl, q H' _ as k1 n1 n2 g1 hl g2⟩
end
end Kz
set_option Elab.async false
set_option linter.all false
set_option maxRecDepth 100000
set_option maxHeartbeats 1000000
namespace Kz
open PySem PySem.Spec PyProof.Rows L2
/-- the list at a and the tuple at b, the items in new pairs -/
def ItzM (K : PySem.W.Frag) (a b : Addr) : It :=
  ⟨fun i H => ∃ (xs ys : List V) (x y : V), SqL K H a xs ∧ SqT K H b ys ∧ xs[i]? = some x ∧ ys[i]? = some y,
    fun i H v H' => ∃ T x y, v = .ref T ∧ H T = none ∧ H' = upd H T (.tup [x, y]) ∧ (∀ xs, SqL K H a xs → xs[i]? = some x) ∧ ∀ ys, SqT K H b ys → ys[i]? = some y,
    fun i H => ∃ xs ys : List V, SqL K H a xs ∧ SqT K H b ys ∧ i = min xs.length ys.length⟩
theorem walk_zipM {K : PySem.W.Frag} {a b : Addr} {xs ys : List V} {n : Nat} (hn : n = min xs.length ys.length) :
    Walk (ItzM K a b) n (fun H => SqL K H a xs ∧ SqT K H b ys) (YPair (fun i => xs[i]?) (fun i => ys[i]?)) := by
  refine ⟨fun i H hi q => ?_, fun H q => ⟨xs, ys, q.1, q.2, hn⟩, fun i H x H' hi q y => ?_⟩
  · have hx : i < xs.length := by omega
    have hy : i < ys.length := by omega
    exact ⟨xs, ys, xs[i], ys[i], q.1, q.2, List.getElem?_eq_getElem hx, List.getElem?_eq_getElem hy⟩
  · obtain ⟨T, x, y, e1, e2, e3, f1, f2⟩ := y
    exact ⟨T, x, y, e1, e2, e3, f1 _ q.1, f2 _ q.2⟩
theorem turn_zipM {P : Program} {w : World} {K : PySem.W.Frag} {elts : List Expr} {kk : Nat} {tpos : Pos} {a b z TI TO i1 i2 : Addr} (S : ZipSep2 z TI TO i1 i2 [i1, a] [i2, b]) (n1 : a ≠ i1) (n2 : b ≠ i2) :
    Turn P w K (.Tuple elts kk tpos) (ItzM K a b) [z, TI, TO, i1, i2] z (fun i h => IsZip h z TI TO .none ∧ IsTupOf2 h TI (.ref i1) (.ref i2) ∧ (∃ x y, IsTupOf2 h TO x y) ∧ h.IsListIter i1 a i ∧ h.IsTupleIter i2 b i) where
  mem := by simp
  obj := fun i h st c mc => by
    obtain ⟨zz, tt0, ⟨x, y, oo0⟩, ⟨o1, e1, _, d1⟩, ⟨o2, e2, _, d2⟩⟩ := st
    simp only [List.mem_cons, List.not_mem_nil, or_false] at mc
    rcases mc with rfl | rfl | rfl | rfl | rfl
    · exact ⟨_, zz, fun v q => nomatch q⟩
    · exact ⟨_, tt0, fun v q => nomatch q⟩
    · exact ⟨_, oo0, fun v q => nomatch q⟩
    · exact ⟨o1, e1, fun v q => by rw [d1] at q; cases q⟩
    · exact ⟨o2, e2, fun v q => by rw [d2] at q; cases q⟩
  keep := fun i h h' st k => by
    obtain ⟨zz, tt0, ⟨x, y, oo0⟩, j1, j2⟩ := st
    exact ⟨k z (by simp) _ zz, k TI (by simp) _ tt0, ⟨x, y, k TO (by simp) _ oo0⟩, j1.at fun o q => k i1 (by simp) o q, j2.at fun o q => k i2 (by simp) o q⟩
  item := by
    intro X eP ew eK calm i pins s σ H E I far st got
    subst eP ew eK
    obtain ⟨zz, tt0, ⟨x0, y0, oo0⟩, j1, j2⟩ := st
    obtain ⟨xs, ys, x, y, qx, qy, ex, ey⟩ := got
    obtain ⟨as, va, p, _⟩ := I.list qx
    obtain ⟨bs, vb, p2, _⟩ := I.tuple qy
    obtain ⟨u, eu, ru⟩ := va.get ex
    obtain ⟨u2, eu2, ru2⟩ := vb.get ey
    have hh : X.A.in1.handled = none := I.ok.hd calm
    have W := WalksT.zipD2 (prog := X.prog) (w := X.w) (A := X.A) S (Draws.list hh i1 a n1 as.toArray) (Draws.tuple hh i2 b n2 bs.toArray)
    have li : i < as.length := (List.getElem?_eq_some_iff.mp eu).1
    have li2 : i < bs.length := (List.getElem?_eq_some_iff.mp eu2).1
    have hi : i < min as.toArray.size bs.toArray.size := by
      have e1 := as.size_toArray
      have e2 := bs.size_toArray
      omega
    refine W.item i s _ _ hi ⟨zz, tt0, ⟨x0, y0, oo0⟩, ⟨j1, p.isList⟩, ⟨j2, p2⟩⟩ fun T vals h' tk pt hT hTup mid k => ?_
    obtain ⟨v1, v2, g1, g2, rfl⟩ := pt
    rw [List.getElem?_toArray] at g1 g2
    cases Option.some.inj (g1.symm.trans eu)
    cases Option.some.inj (g2.symm.trans eu2)
    refine ⟨_, rfl, W.go elts kk tpos i T { s with heap := h', toks := tk } _ _ mid fun h'' st'' k2 => ?_⟩
    have ap := W.apart i T h' mid
    have hT2 : h''.IsTuple T #[u, u2] := hTup.at fun o e => k2 T o ap e
    have new : ObjOk X.prog X.w (upd H T (.tup [x, y])) h'' T (.tup [x, y]) := ⟨by show 2 ≤ sizeLine; decide, [u, u2], .cons ru (.cons ru2 .nil), hT2⟩
    have I1 : Inv X pins σ (upd H T (.tup [x, y])) { s with heap := h'', toks := tk } :=
      I.turnedNew (t' := tk) (ch := [z, TO, i1, i2]) (fun c o hb q => k2 c o hb (k c o hb q)) (fun c mem => far c (by
        simp only [List.mem_cons, List.not_mem_nil, or_false] at mem ⊢
        rcases mem with rfl | rfl | rfl | rfl <;> simp)) hT new
    refine ⟨.ref T, _, I1, rfl, ⟨T, x, y, rfl, I.hok.fresh hT, rfl, fun l hl => by rw [I.list_inj hl qx]; exact ex, fun l hl => by rw [I.tuple_inj hl qy]; exact ey⟩, ⟨st''.1, st''.2.1, st''.2.2.1, st''.2.2.2.1.1, st''.2.2.2.2.1⟩, fun c mem => ?_⟩
    have low : c < s.heap.objs.size := by
      simp only [List.mem_cons, List.not_mem_nil, or_false] at mem
      rcases mem with rfl | rfl | rfl | rfl | rfl
      · exact Heap.lt_size zz
      · exact Heap.lt_size tt0
      · exact Heap.lt_size oo0
      · obtain ⟨_, e1, _⟩ := id j1
        exact Heap.lt_size e1
      · obtain ⟨_, e2, _⟩ := id j2
        exact Heap.lt_size e2
    rw [upd_ne (Nat.ne_of_lt (Nat.lt_of_lt_of_le low hT))]
    exact (far c mem).1
  done := by
    intro X eP ew eK calm i pins s σ H E I far st got
    subst eP ew eK
    obtain ⟨zz, tt0, ⟨x0, y0, oo0⟩, j1, j2⟩ := st
    obtain ⟨xs, ys, qx, qy, last⟩ := got
    obtain ⟨as, va, p, _⟩ := I.list qx
    obtain ⟨bs, vb, p2, _⟩ := I.tuple qy
    have hh : X.A.in1.handled = none := I.ok.hd calm
    have W := WalksT.zipD2 (prog := X.prog) (w := X.w) (A := X.A) S (Draws.list hh i1 a n1 as.toArray) (Draws.tuple hh i2 b n2 bs.toArray)
    have e : i = min as.toArray.size bs.toArray.size := by
      rw [last, List.size_toArray, List.size_toArray, va.length, vb.length]
    rw [e] at j1 j2
    refine W.done s _ _ ⟨zz, tt0, ⟨x0, y0, oo0⟩, ⟨j1, p.isList⟩, ⟨j2, p2⟩⟩ fun h' tk k => ⟨rfl, ?_⟩
    exact I.turnedL (t' := tk) (ch := [z, TO, i1, i2]) k fun c mem => far c (by
      simp only [List.mem_cons, List.not_mem_nil, or_false] at mem ⊢
      rcases mem with rfl | rfl | rfl | rfl <;> simp)
  self := fun _ _ _ _ _ now h => wpAny_pyIter_zip now.1 h
def iZipM (K : PySem.W.Frag) (ta : TA) : TI := fun σ H R => ta σ H fun vs H1 => ∃ a b xs ys, vs = [.ref a, .ref b] ∧ SqL K H1 a xs ∧ SqT K H1 b ys ∧ R (ItzM K a b) H1
theorem pi_zipM {X : Cx} {e e2 : Expr} {ta : TA} {p pos tpos : Pos} {elts : List Expr} {kk : Nat} (hg : Gl X "zip") (hm : X.mg "zip" = none) (ha : PA X [e, e2] ta)
    (star : starEach [e, e2] X.env = (false, eval e X.env) :: starEach [e2] X.env := by rfl) (plain : (backTo pos (starEach [e2] X.env)).any (·.1) = false := by rfl) :
    PI X (.Tuple elts kk tpos) (.Call (.Name "zip" p) [e, e2] [] pos) (iZipM X.K ta) := by
  refine ⟨fun pins s σ H R I want => ?_⟩
  refine Call_ (ld_blt I hg hm PyProof.Rows.boot_zip (PyProof.Rows.callWith_type1 (thn (ha.run pos pins s σ H _ I want) fun us s1 ⟨vs, H1, I1, r1, q1⟩ => ?_) star plain))
  obtain ⟨a, b, xs, ys, rfl, qx, qy, q⟩ := q1
  obtain ⟨u1, us1, rfl, ra, r2⟩ : ∃ u us', us = u :: us' ∧ RelV (.ref a) u ∧ Vals [.ref b] us' := by
    cases r1 with
    | cons r rr => exact ⟨_, _, rfl, r, rr⟩
  obtain ⟨u2, rfl, rb⟩ := vals1 r2
  cases ra
  cases rb
  obtain ⟨as, va, p1, _⟩ := I1.list qx
  obtain ⟨bs, vb, p2, _⟩ := I1.tuple qy
  have ba : a < s1.heap.objs.size := p1.lt
  have bb : b < s1.heap.objs.size := by
    obtain ⟨_, eb, _⟩ := id p2
    exact Heap.lt_size eb
  refine zip_begins2 (begins_list a as.toArray) (begins_tuple b bs.toArray) p1.isList p2 fun h' zz tt0 oo0 g1 g2 hsz k => wpAny_pyIter_zip zz ?_
  have I2 : Inv X pins σ H1 { s1 with heap := h' } := I1.kept (t' := s1.toks) k
  have sep : ZipSep2 (s1.heap.objs.size + 4) (s1.heap.objs.size + 2) (s1.heap.objs.size + 3) s1.heap.objs.size (s1.heap.objs.size + 1) [s1.heap.objs.size, a] [s1.heap.objs.size + 1, b] :=
    zip_sep2 (fun c hc => by rw [List.mem_singleton.mp hc]; exact ba) (fun c hc => by rw [List.mem_singleton.mp hc]; exact bb)
  refine ⟨s1.heap.objs.size + 4, [s1.heap.objs.size + 4, s1.heap.objs.size + 2, s1.heap.objs.size + 3, s1.heap.objs.size, s1.heap.objs.size + 1], _, _, H1, rfl, I2,
    turn_zipM sep (Nat.ne_of_lt ba) (Nat.ne_of_lt (Nat.lt_of_lt_of_le bb (Nat.le_add_right _ _))), ⟨zz, tt0, ⟨_, _, oo0⟩, ⟨_, g1, rfl, rfl⟩, ⟨_, g2, rfl, rfl⟩⟩, fun c mem => ?_, q⟩
  have high : s1.heap.objs.size ≤ c := by
    simp only [List.mem_cons, List.not_mem_nil, or_false] at mem
    rcases mem with rfl | rfl | rfl | rfl | rfl
    · exact Nat.le_add_right _ _
    · exact Nat.le_add_right _ _
    · exact Nat.le_add_right _ _
    · exact Nat.le_refl _
    · exact Nat.le_add_right _ _
  exact I1.fpOk high (I1.hok.fresh high)
end Kz
set_option Elab.async false
set_option linter.all false
set_option maxRecDepth 100000
set_option maxHeartbeats 1000000
namespace Kz
open PySem PySem.Spec PyProof.Rows L2
/-- len(o) by the class's own __len__ at f -/
def rLenI (K : PySem.W.Frag) (f : Addr) (sp : Sp) (E : XK) : List V → Hp → VK → Prop := fun xs H Q => ∃ (a C dx : Addr) (fs : List (Str × V)), xs = [.ref a] ∧ H a = some (.ins C dx fs) ∧
  PySem.W.findIn K (.ref C) "__len__" = some (some (.ref f)) ∧ PySem.W.isFn K (.ref f) = true ∧ sp [.ref a] H (fun v H' => ∃ n : Int, v = .int n ∧ 0 ≤ n ∧ n < 2 ^ 63 ∧ Q (.int n) H') E
theorem call_lenI {X : Cx} {CX : CXT} {k : Nat} {f : Addr} {fd : FuncData} {p : Str} {sp : Sp} {E : XK} (F : FnOk X.prog X.w X.K X.mg X.base CX k f fd [p] sp) (hr : Room (k + 1) X.A) (hb : Binds X.K fd [p] []) (hx : Passes CX X E) :
    CallR X (.builtin "len") (rLenI X.K f sp E) := by
  intro pins s σ H xs us Q I rel want
  obtain ⟨a, C, dx, fs, rfl, e, hf, fn, sp1⟩ := want
  obtain ⟨u, rfl, ru⟩ := vals1 rel
  cases ru
  obtain ⟨_, O, _, _, _, _⟩ := ins_get I.hok e
  obtain ⟨od, J, _⟩ := O.look
  obtain ⟨m, Fm⟩ := I.fr
  refine PySem.W.len_K Fm I.ok.mod.kin J hf fn ?_
  have run := F.run X.A.in1 X.stack s H ⟨[.ref a], []⟩ [.ref a] [.ref a] _ E hr.in1 I.env0.in1 (hb s [.ref a] I.kIn rfl) (.cons rfl .nil) sp1
  refine wpAny_call (codeAny_mono run fun r s' got => ?_)
  match r, got with
  | .error e, got => exact hx pins σ H s e s' I got
  | .ok (.ret u), got =>
    obtain ⟨v, H', I', rv, n, rfl, n0, n1, q⟩ := I.after got
    obtain ⟨t, rfl⟩ := rv
    exact ⟨⟨n0, n1⟩, .int n, H', I'.tok _, ⟨_, rfl⟩, q⟩
end Kz
set_option Elab.async false
set_option linter.all false
set_option maxRecDepth 100000
set_option maxHeartbeats 1000000
namespace Kz
open PySem
open PySem.Sem (wp)
section
variable {E : Value → Shared → Prop} {s : Shared} {A : Around} {prog : Program} {w : World}
theorem zot_item {z TI TO i1 i2 l1 l2 T : Addr} {k1 k2 : Nat} {f1 : Bool} {oT : Obj} {xs ys : Array Value} {x y : Value} {Q : Value → Shared → Prop}
    (D : ZipApart z TI TO i1 i2 l1 l2) (hz : ZipO s.heap z TI TO (rawInt T) f1) (hT : s.heap.get? T = some oT) (hTI : IsPair s.heap TI (.ref i1) (.ref i2)) (it1 : s.heap.IsTupleIter i1 l1 k1) (it2 : s.heap.IsTupleIter i2 l2 k2)
    (sq1 : s.heap.IsTuple l1 xs) (sq2 : s.heap.IsTuple l2 ys) (ex : xs[k1]? = some x) (ey : ys[k2]? = some y)
    (fin : ∀ hC, ZipO hC z TI TO (rawInt T) true → hC.IsTupleIter i1 l1 (k1 + 1) → hC.IsTupleIter i2 l2 (k2 + 1) → IsPair hC s.heap.objs.size x y →
      (∀ b ob, b ≠ z → b ≠ i1 → b ≠ i2 → s.heap.get? b = some ob → hC.get? b = some ob) → Q (.ref s.heap.objs.size) { s with heap := hC }) :
    wpAny (model prog w) A (Builtin.«zip.__next__» ⟨[.ref z], []⟩) (fun r t => ∃ v, r = .done (.ret v) ∧ Q v t) E s := by
  refine zip_turn hz hT hTI fun hA zA same => RZ.nextOf_tuple_item (it1.extBut same.extBut D.i1z) (sq1.extBut same.extBut D.l1z) ex fun hB b1 sB => ?_
  refine RZ.nextOf_tuple_item ((it2.extBut same.extBut D.i2z).extBut sB.extBut D.i12.symm) ((sq2.extBut same.extBut D.l2z).extBut sB.extBut D.l2i1) ey fun hC c2 sC => ⟨_, rfl, ?_⟩
  have size : hC.objs.size = s.heap.objs.size := sC.1.trans (sB.1.trans same.1)
  have pair : IsPair (hC.push { cls := .type "tuple", data := .seq #[x, y] }) hC.objs.size x y := Heap.get?_push_size _ rfl
  have up : ∀ {b : Addr} {ob : Obj}, hC.get? b = some ob → (hC.push { cls := .type "tuple", data := .seq #[x, y] }).get? b = some ob := fun e => Heap.get?_push_of_some _ e
  show Q (.ref hC.objs.size) _
  rw [size] at pair ⊢
  exact fin _ (up (sC.extBut _ _ D.i2z.symm (sB.extBut _ _ D.i1z.symm zA))) ((b1.extBut sC.extBut D.i12).at fun _ e => up e) (c2.at fun _ e => up e) pair fun b ob n1 n2 n3 e => up (sC.extBut _ _ n3 (sB.extBut _ _ n2 (same.extBut _ _ n1 e)))

theorem zot_end {z TI TO i1 i2 l1 l2 T : Addr} {k1 k2 : Nat} {f1 : Bool} {oT : Obj} {xs ys : Array Value} {Q : Fin → Shared → Prop} (calm : A.handled = none) (D : ZipApart z TI TO i1 i2 l1 l2) (hz : ZipO s.heap z TI TO (rawInt T) f1)
    (hT : s.heap.get? T = some oT) (hTI : IsPair s.heap TI (.ref i1) (.ref i2)) (it1 : s.heap.IsTupleIter i1 l1 k1) (it2 : s.heap.IsTupleIter i2 l2 k2) (sq1 : s.heap.IsTuple l1 xs) (sq2 : s.heap.IsTuple l2 ys) (stop : xs[k1]? = none ∨ ys[k2]? = none)
    (out : ∀ hC e, (∀ b ob, b ≠ z → b ≠ i1 → b ≠ i2 → s.heap.get? b = some ob → hC.get? b = some ob) → (∃ ob, hC.get? e = some ob ∧ ob.cls = .type "StopIteration") → E (.ref e) { s with heap := hC }) :
    wpAny (model prog w) A (Builtin.«zip.__next__» ⟨[Value.ref z], []⟩) Q E s := by
  refine zip_turn hz hT hTI fun hA zA same => ?_
  have a1 := it1.extBut same.extBut D.i1z
  have q1 := sq1.extBut same.extBut D.l1z
  match ex : xs[k1]? with
  | none => exact RZ.nextOf_tuple_end calm a1 q1 ex fun hB e sB he => out hB e (fun b ob n1 n2 _ q => sB _ _ n2 (same.extBut _ _ n1 q)) he
  | some x =>
    have ey : ys[k2]? = none := stop.resolve_left fun q => by rw [ex] at q; cases q
    refine RZ.nextOf_tuple_item a1 q1 ex fun hB b1 sB => ?_
    exact RZ.nextOf_tuple_end calm ((it2.extBut same.extBut D.i2z).extBut sB.extBut D.i12.symm) ((sq2.extBut same.extBut D.l2z).extBut sB.extBut D.l2i1) ey fun hC e sC he => out hC e (fun b ob n1 n2 n3 q => sC _ _ n3 (sB.extBut _ _ n2 (same.extBut _ _ n1 q))) he
end
/-- zip of two tuples as what dict(..) takes -/
theorem pairs_zipT {prog : Program} {w : World} (z TI TO i1 i2 l1 l2 : Addr) (D : ZipApart z TI TO i1 i2 l1 l2) (xs ys : Array Value) :
    PairArg prog w "zip" z [z, TI, TO, i1, i2, l1, l2] [z, TO, i1, i2] (min xs.size ys.size) (fun j key val => xs[j]? = some key ∧ ys[j]? = some val)
      (fun hp => IsZip hp z TI TO .none ∧ IsPair hp TI (.ref i1) (.ref i2) ∧ (∃ u v, IsPair hp TO u v) ∧ hp.IsTupleIter i1 l1 0 ∧ hp.IsTupleIter i2 l2 0 ∧ hp.IsTuple l1 xs ∧ hp.IsTuple l2 ys) where
  type := fun sh good => ⟨_, good.1, rfl⟩
  notDict := by decide
  keep := fun hp hp' good k => by
    obtain ⟨z0, t0, ⟨u, v, o0⟩, j1, j2, m1, m2⟩ := good
    exact ⟨k _ _ z0, k _ _ t0, ⟨u, v, k _ _ o0⟩, j1.at fun o q => k _ o q, j2.at fun o q => k _ o q, m1.at fun o q => k _ o q, m2.at fun o q => k _ o q⟩
  there := fun hp good c hc => by
    obtain ⟨z0, t0, ⟨u, v, o0⟩, ⟨_, j1, _⟩, ⟨_, j2, _⟩, ⟨_, m1, _⟩, ⟨_, m2, _⟩⟩ := good
    simp only [List.mem_cons, List.not_mem_nil, or_false] at hc
    rcases hc with rfl | rfl | rfl | rfl | rfl | rfl | rfl
    · exact ⟨_, z0⟩
    · exact ⟨_, t0⟩
    · exact ⟨_, o0⟩
    · exact ⟨_, j1⟩
    · exact ⟨_, j2⟩
    · exact ⟨_, m1⟩
    · exact ⟨_, m2⟩
  sub := fun c hc => by
    simp only [List.mem_cons, List.not_mem_nil, or_false] at hc ⊢
    rcases hc with rfl | rfl | rfl | rfl <;> simp
  noKeys := fun A sh Q E hA good h => getAttrOr_miss_zip good.1 rfl rfl rfl zip_no_keys (by decide +kernel) hA h
  iter := fun A sh d Q E hA good hd hdf h => by
    obtain ⟨z0, t0, ⟨u, v, o0⟩, j1, j2, m1, m2⟩ := good
    obtain ⟨dz, dTI, dTO, di1, di2, dl1, dl2⟩ : d ≠ z ∧ d ≠ TI ∧ d ≠ TO ∧ d ≠ i1 ∧ d ≠ i2 ∧ d ≠ l1 ∧ d ≠ l2 := by simpa using hdf
    refine wpAny_pyIter_zip z0 (h z [z, TO, i1, i2] (fun j hp => IsPair hp TI (.ref i1) (.ref i2) ∧ hp.IsTupleIter i1 l1 j ∧ hp.IsTupleIter i2 l2 j ∧ hp.IsTuple l1 xs ∧ hp.IsTuple l2 ys ∧
      ((IsZip hp z TI TO .none ∧ ∃ u v, IsPair hp TO u v) ∨ ∃ (T : Addr) (f : Bool) (oT : Obj), ZipO hp z TI TO (rawInt T) f ∧ hp.get? T = some oT ∧ T ≠ z ∧ T ≠ i1 ∧ T ≠ i2 ∧ T ≠ d)) sh.heap sh.toks ?_
      ⟨t0, j1, j2, m1, m2, .inl ⟨z0, u, v, o0⟩⟩ (fun _ _ q => q) fun c hc => .inl hc)
    refine ⟨fun hm => ?_, fun j p1 p2 st k => ?_, fun j s₁ Q₁ E₁ hj st hds hQ => ?_, fun s₁ Q₁ E₁ st hQ => ?_⟩
    · simp only [List.mem_cons, List.not_mem_nil, or_false] at hm
      rcases hm with q | q | q | q
      · exact dz q
      · exact dTO q
      · exact di1 q
      · exact di2 q
    · obtain ⟨t1, g1, g2, n1, n2, zz⟩ := st
      refine ⟨k _ _ (Ne.symm dTI) t1, g1.at fun o q => k _ o (Ne.symm di1) q, g2.at fun o q => k _ o (Ne.symm di2) q, n1.at fun o q => k _ o (Ne.symm dl1) q, n2.at fun o q => k _ o (Ne.symm dl2) q, ?_⟩
      rcases zz with ⟨zz, u, v, oo⟩ | ⟨T, f, oT, zz, hT, r1, r2, r3, r4⟩
      · exact .inl ⟨k _ _ (Ne.symm dz) zz, u, v, k _ _ (Ne.symm dTO) oo⟩
      · exact .inr ⟨T, f, oT, k _ _ (Ne.symm dz) zz, k _ _ r4 hT, r1, r2, r3, r4⟩
    · obtain ⟨t1, g1, g2, n1, n2, zz⟩ := st
      have lx : j < xs.size := Nat.lt_of_lt_of_le hj (Nat.min_le_left ..)
      have ly : j < ys.size := Nat.lt_of_lt_of_le hj (Nat.min_le_right ..)
      have ex := Array.getElem?_eq_getElem lx
      have ey := Array.getElem?_eq_getElem ly
      have new : ∀ {c : Addr} {o : Obj}, s₁.heap.get? c = some o → s₁.heap.objs.size ≠ c := fun q => Nat.ne_of_gt (Heap.lt_size q)
      have w1 : s₁.heap.objs.size ≠ i1 := by
        obtain ⟨_, q, _⟩ := id g1
        exact new q
      have w2 : s₁.heap.objs.size ≠ i2 := by
        obtain ⟨_, q, _⟩ := id g2
        exact new q
      rcases zz with ⟨zz, u, v, oo⟩ | ⟨T, f, oT, zz, hT, r1, r2, r3, r4⟩
      · refine RZ.pyNext_zipT_item D zz t1 oo g1 g2 n1 n2 ex ey fun h' a1 a2 a3 a4 a5 a6 k => ?_
        refine hQ s₁.heap.objs.size _ _ h' s₁.toks ⟨ex, ey⟩ (.inl ⟨_, a5, rfl, _, rfl⟩) ⟨k _ _ D.TIz D.TITO D.TIi1 D.TIi2 t1, a3, a4, n1.at fun o q => k _ o D.l1z D.l1TO D.l1i1 D.l1i2 q, n2.at fun o q => k _ o D.l2z D.l2TO D.l2i1 D.l2i2 q,
          .inr ⟨s₁.heap.objs.size, false, _, a1, a5, new zz, w1, w2, Nat.ne_of_gt hds⟩⟩ fun c o hc q => ?_
        simp only [List.mem_cons, List.not_mem_nil, or_false, not_or] at hc
        exact k c o hc.1 hc.2.1 hc.2.2.1 hc.2.2.2 q
      · have ty : s₁.TypeIs (.ref z) "zip" := ⟨_, zz, rfl⟩
        unfold pyNext
        refine wpAny_bind (wpAny_attempt (wpAny_callSpecial?_slot (name := Str.ofString "__next__") ty F.slot_zip_next (wpAny_call_entry F.slot_zip_next ty F.entry_zip_next ?_ (F.args_zip_next_1 _))))
        refine zot_item D zz hT t1 g1 g2 n1 n2 ex ey fun h' a1 a3 a4 a5 k => wpAny_pure ?_
        refine hQ s₁.heap.objs.size _ _ h' s₁.toks ⟨ex, ey⟩ (.inl ⟨_, a5, rfl, _, rfl⟩) ⟨k _ _ D.TIz D.TIi1 D.TIi2 t1, a3, a4, n1.at fun o q => k _ o D.l1z D.l1i1 D.l1i2 q, n2.at fun o q => k _ o D.l2z D.l2i1 D.l2i2 q,
          .inr ⟨T, true, oT, a1, k _ _ r1 r2 r3 hT, r1, r2, r3, r4⟩⟩ fun c o hc q => ?_
        simp only [List.mem_cons, List.not_mem_nil, or_false, not_or] at hc
        exact k c o hc.1 hc.2.2.1 hc.2.2.2 q
    · obtain ⟨t1, g1, g2, n1, n2, zz⟩ := st
      have stop : xs[min xs.size ys.size]? = none ∨ ys[min xs.size ys.size]? = none := by
        rcases Nat.le_total xs.size ys.size with q | q
        · exact .inl (Array.getElem?_eq_none (by rw [Nat.min_eq_left q]; exact Nat.le_refl _))
        · exact .inr (Array.getElem?_eq_none (by rw [Nat.min_eq_right q]; exact Nat.le_refl _))
      rcases zz with ⟨zz, u, v, oo⟩ | ⟨T, f, oT, zz, hT, r1, r2, r3, r4⟩
      · refine RZ.pyNext_zipT_end hA D zz t1 oo g1 g2 n1 n2 stop fun h' k => hQ h' s₁.toks fun c o hc q => ?_
        simp only [List.mem_cons, List.not_mem_nil, or_false, not_or] at hc
        exact k c o hc.1 hc.2.1 hc.2.2.1 hc.2.2.2 q
      · have ty : s₁.TypeIs (.ref z) "zip" := ⟨_, zz, rfl⟩
        unfold pyNext
        refine wpAny_bind (wpAny_attempt (wpAny_callSpecial?_slot (name := Str.ofString "__next__") ty F.slot_zip_next (wpAny_call_entry F.slot_zip_next ty F.entry_zip_next ?_ (F.args_zip_next_1 _))))
        refine zot_end hA D zz hT t1 g1 g2 n1 n2 stop fun h' e k he => ?_
        refine wpAny_bind (wpAny_isInstance (T := "StopIteration") (b := true) he isSubtype_stop (wpAny_pure (hQ h' s₁.toks fun c o hc q => ?_)))
        simp only [List.mem_cons, List.not_mem_nil, or_false, not_or] at hc
        exact k c o hc.1 hc.2.2.1 hc.2.2.2 q
end Kz
namespace Kz
open PySem PySem.Spec PyProof.Rows L2
/-- dict(zip(t, u)) of two tuples, the first of keys -/
def tDZ (K : PySem.W.Frag) (ta : TA) : TE := fun σ H Q => ta σ H fun vs H1 => ∃ (a b : Addr) (kvs : List (Key × V)), vs = [.ref a, .ref b] ∧ SqT K H1 a (kvs.map fun q => kV q.1) ∧ SqT K H1 b (kvs.map (·.2)) ∧
  ∀ p, H1 p = none → Q (.ref p) (upd H1 p (.dK (mergeK [] kvs)))
theorem key_val {k : Key} {u : Value} (r : RelV (kV k) u) : keyIs k u = true := by
  cases k with
  | inl i =>
    obtain ⟨tk, rfl⟩ : ∃ tk, u = Value.int i tk := r
    exact keyIs_int i tk
  | inr x =>
    obtain ⟨tk, rfl⟩ : ∃ tk, u = Value.str x tk := r
    exact keyIs_str x tk
theorem kv_split : ∀ (kvs : List (Key × V)) (us ws : List Value), Vals (kvs.map fun q => kV q.1) us → Vals (kvs.map (·.2)) ws → ∃ prs : List (Key × Value), KV kvs prs ∧ prs.length = kvs.length ∧
    ∀ (j : Nat) (u v : Value), us[j]? = some u → ws[j]? = some v → ∃ k, prs[j]? = some (k, v) ∧ keyIs k u = true
  | [], us, ws, r1, r2 => by
    cases r1
    cases r2
    exact ⟨[], .nil, rfl, fun j u v h _ => by simp at h⟩
  | (k, x) :: r, us, ws, r1, r2 => by
    cases r1 with
    | cons a1 b1 =>
      cases r2 with
      | cons a2 b2 =>
        obtain ⟨prs, h1, h2, h3⟩ := kv_split r _ _ b1 b2
        refine ⟨(k, _) :: prs, .cons ⟨rfl, a2⟩ h1, by rw [List.length_cons, List.length_cons, h2], fun j u v hu hv => ?_⟩
        cases j with
        | zero =>
          cases Option.some.inj hu
          cases Option.some.inj hv
          exact ⟨k, rfl, key_val a1⟩
        | succ j => exact h3 j u v hu hv
section
variable {X : Cx} {e1 e2 : Expr} {ta : TA} {p p2 pos pos2 : Pos}
theorem pe_dictZip (hc : X.calm = true) (hg : Gl X "dict") (hm : X.mg "dict" = none) (hg2 : Gl X "zip") (hm2 : X.mg "zip" = none) (ha : PA X [e1, e2] ta)
    (hs2 : starEach [e1, e2] X.env = (false, eval e1 X.env) :: starEach [e2] X.env := by rfl) (hpl : (backTo pos2 (starEach [e2] X.env)).any (·.1) = false := by rfl)
    (hs : starEach [.Call (.Name "zip" p2) [e1, e2] [] pos2] X.env = (false, eval (.Call (.Name "zip" p2) [e1, e2] [] pos2) X.env) :: starEach [] X.env := by rfl) :
    PE X (.Call (.Name "dict" p) [.Call (.Name "zip" p2) [e1, e2] [] pos2] [] pos) (tDZ X.K ta) := by
  refine ⟨fun pins s σ H Q I want => ?_⟩
  refine wpAny_Call_Name_kw (ld_blt I hg hm (show bootBuiltins "dict" = some (.type "dict") by decide +kernel) ?_)
  refine PyProof.Rows.callWith_type1 (rest := []) ?_ hs rfl
  rw [hs]
  show wpAny _ _ (spliced ((false, eval (.Call (.Name "zip" p2) [e1, e2] [] pos2) X.env) :: backTo pos (starEach [] X.env))) _ _ s
  refine Calls.spliced_cons ?_
  refine wpAny_Call_Name_kw (ld_blt I hg2 hm2 PyProof.Rows.boot_zip ?_)
  refine PyProof.Rows.callWith_type1 (thn (ha.run pos2 pins s σ H _ I want) fun us s1 ⟨vs, H1, I1, r1, q1⟩ => ?_) hs2 hpl
  obtain ⟨a, b, kvs, rfl, hqx, hqy, q⟩ := q1
  obtain ⟨u1, us1, rfl, ra, r2⟩ : ∃ u us', us = u :: us' ∧ RelV (.ref a) u ∧ Vals [.ref b] us' := by
    cases r1 with
    | cons r rr => exact ⟨_, _, rfl, r, rr⟩
  obtain ⟨u2, rfl, rb⟩ := vals1 r2
  cases ra
  cases rb
  obtain ⟨its, rv, p1, small1⟩ := I1.tuple hqx
  obtain ⟨its2, rv2, p2', small2⟩ := I1.tuple hqy
  have la : a < s1.heap.objs.size := by
    obtain ⟨_, q, _⟩ := id p1
    exact Heap.lt_size q
  have lb : b < s1.heap.objs.size := by
    obtain ⟨_, q, _⟩ := id p2'
    exact Heap.lt_size q
  have ln1 := rv.length
  have ln2 := rv2.length
  rw [List.length_map] at ln1 ln2 small1
  obtain ⟨prs, kv, pl, pr⟩ := kv_split kvs its its2 rv rv2
  refine RZ.call_zipT p1 p2' fun h' hz hTI hTO h1 h2 hsz k => ?_
  refine Calls.spliced_nil ?_
  have D := PySem.W.ktu_apart s1.heap.objs.size a b la lb
  have nn : min its.toArray.size its2.toArray.size = kvs.length := by
    rw [List.size_toArray, List.size_toArray, ← ln1, ← ln2, Nat.min_self]
  have P := pairs_zipT (prog := X.prog) (w := X.w) _ _ _ _ _ a b D its.toArray its2.toArray
  have have_ : PairsHave (mixKind X.prog X.w) (min its.toArray.size its2.toArray.size) (fun j key val => its.toArray[j]? = some key ∧ its2.toArray[j]? = some val) prs := by
    refine ⟨by rw [pl, nn], fun j key v g => ?_⟩
    obtain ⟨g1, g2⟩ := g
    rw [List.getElem?_toArray] at g1 g2
    exact pr j key v g1 g2
  refine PySem.call_dict_pairs (s := { s1 with heap := h' }) (knd := mixKind X.prog X.w) P (I1.ok.hd hc) ⟨hz, hTI, ⟨_, _, hTO⟩, h1, h2, (let ⟨o, e, r⟩ := p1; ⟨o, k _ _ e, r⟩), (let ⟨o, e, r⟩ := p2'; ⟨o, k _ _ e, r⟩)⟩ have_ (by rw [nn]; exact small1) fun h2' tk hd' k2 => ?_
  have kk : ∀ b o, s1.heap.get? b = some o → h2'.get? b = some o := fun b o e => by
    have lt := Heap.lt_size e
    have ne : ∀ i : Nat, b ≠ s1.heap.objs.size + i := fun i => Nat.ne_of_lt (Nat.lt_of_lt_of_le lt (Nat.le_add_right _ _))
    refine k2 b o (fun inL => ?_) (k b o e)
    simp only [List.mem_cons, List.not_mem_nil, or_false] at inL
    rcases inL with z | z | z | z
    · exact ne 4 z
    · exact ne 3 z
    · exact ne 0 z
    · exact ne 1 z
  have low : s1.heap.objs.size ≤ h'.objs.size := by rw [hsz]; exact Nat.le_add_right _ _
  have hm' : (h'.objs.size == sysModules) = false := beq_eq_false_iff_ne.mpr (Nat.ne_of_gt (Nat.lt_of_lt_of_le I1.big low))
  have few : (mergeK [] kvs).length ≤ sizeLine := Nat.le_trans (length_mergeK kvs []) (by rw [List.length_nil, Nat.zero_add]; exact small1)
  exact ⟨.ref h'.objs.size, upd H1 h'.objs.size (.dK (mergeK [] kvs)), I1.laid (t' := tk) kk low (show ObjOk X.prog X.w _ _ _ (.dK (mergeK [] kvs)) from ⟨few, hm', merged [] prs, KV.merge kv .nil, hd'⟩), rfl, q _ (I1.hok.fresh low)⟩
end
/-- s * n -/
theorem op_mulS {X : Cx} : OpR X (binaryOp .Mult) (fun x y H Q => ∃ (z : Str) (n : Int), x = .str z ∧ y = .int n ∧ 0 ≤ n ∧ n ≤ 1000 ∧ z.length = 1 ∧ Q (.str (Txt.mul z n)) H) := by
  intro pins s σ H x y v u Q I rx ry want
  obtain ⟨z, n, rfl, rfl, n0, n1, zl, q⟩ := want
  obtain ⟨t, rfl⟩ := rx
  obtain ⟨t', rfl⟩ := ry
  refine SB.mul ⟨?_, fun h1 _ => ?_, fun h1 _ => ?_⟩ fun t' k => ⟨.str _, H, I.tok _, ⟨_, rfl⟩, q⟩
  · have e1 : ¬ n < -(2 ^ 63 : Int) := by omega
    have e2 : ¬ n ≥ (2 ^ 63 : Int) := by omega
    rw [decide_eq_false e1, decide_eq_false e2]
    rfl
  · rw [zl]
    have : (1 : Int) ≤ (2 ^ 63 - 1) / n := by
      apply Int.le_ediv_of_mul_le (by omega)
      omega
    omega
  · rw [zl, Nat.one_mul]
    show decide (n.toNat > sizeLine) = false
    have : (1000 : Nat) < sizeLine := by decide
    exact decide_eq_false (show ¬ n.toNat > sizeLine by omega)
theorem mulS_len (z : Str) (n : Int) (zl : z.length = 1) (n1 : n ≤ 1000) : (Txt.mul z n).length ≤ sizeLine := by
  have := len_mul_leN (x := z) (n := n) (L := 1) (N := 1000) (by omega) (by omega)
  have h : (1000 : Nat) < sizeLine := by decide
  omega
end Kz
set_option Elab.async false
set_option linter.all false
set_option maxRecDepth 100000
namespace Kc
open PySem PySem.Spec PyProof.Rows L2 Kx TL
/-! ### what stays -/
theorem same_new {H : Hp} {p : Addr} {o : HO} (h : H p = none) : Same H (upd H p o) := fun b x e => by
  rw [upd_ne (ne_of_none e h)]
  exact e
theorem same_at {H H' : Hp} {p : Addr} {o : HO} (h : H p = none) (s : Same H H') : Same H (upd H' p o) := fun b x e => by
  rw [upd_ne (ne_of_none e h)]
  exact s b x e

/-- a comprehension without a test keeps every item -/
theorem kept_yes {σ : L2.St} {H : Hp} {A B : Hp → Prop} (h : A H) : tYes σ H (fun b H3 => if b = true then A H3 else B H3) := by
  show (if true = true then A H else B H)
  rw [if_pos rfl]
  exact h

/-! ### a word of one to eight letters -/
abbrev abc : Str := "abcdefghijklmnopqrstuvwxyz"
def wordB : V → Bool
  | .str z => decide (1 ≤ (z.length : Int)) && (decide ((z.length : Int) ≤ 8) && z.cps.toList.all fun c => decide (c ∈ abc.cps.toList))
  | _ => false
/-- a value of which isinstance(.., str) is known -/
inductive Thing (K : PySem.W.Frag) (H : Hp) : V → Prop
  | str (z : Str) (h : z.length ≤ sizeLine) : Thing K H (.str z)
  | non : Thing K H .non
  | bl (b : Bool) : Thing K H (.bl b)
  | int (i : Int) : Thing K H (.int i)
  | lst {a : Addr} {xs : List V} (h : H a = some (.lst xs)) : Thing K H (.ref a)
  | tup {a : Addr} {xs : List V} (h : H a = some (.tup xs)) : Thing K H (.ref a)
  | dct {a : Addr} {kvs : List (Key × V)} (h : H a = some (.dK kvs)) : Thing K H (.ref a)
theorem Thing.same {K : PySem.W.Frag} {H H' : Hp} {v : V} (t : Thing K H v) (s : Same H H') : Thing K H' v := by
  cases t with
  | str z h => exact .str z h
  | non => exact .non
  | bl b => exact .bl b
  | int i => exact .int i
  | lst h => exact .lst (s _ _ h)
  | tup h => exact .tup (s _ _ h)
  | dct h => exact .dct (s _ _ h)
/-- its type, and whether that is str -/
def isStr : V → Bool
  | .str _ => true
  | _ => false
theorem Thing.ty {K : PySem.W.Frag} {H : Hp} {v : V} (t : Thing K H v) :
    ∃ u, TyX K H v u ∧ PySem.W.kitOne K u (.type "str") = some (isStr v) := by
  cases t with
  | str z h => exact ⟨_, .base (.str z), kit_ty (show kitB "str" "str" = some true by decide +kernel)⟩
  | non => exact ⟨_, .base .non, kit_ty (by decide +kernel)⟩
  | bl b => exact ⟨_, .base (.bl b), kit_ty (show kitB "bool" "str" = some false by decide +kernel)⟩
  | int i => exact ⟨_, .base (.int i), kit_ty (show kitB "int" "str" = some false by decide +kernel)⟩
  | lst h => exact ⟨_, .base (.lst h), kit_ty (show kitB "list" "str" = some false by decide +kernel)⟩
  | tup h => exact ⟨_, .base (.tup h), kit_ty (show kitB "tuple" "str" = some false by decide +kernel)⟩
  | dct h => exact ⟨_, .base (.dK h), kit_ty (show kitB "dict" "str" = some false by decide +kernel)⟩
theorem notStr {K : PySem.W.Frag} {H : Hp} {v : V} (t : Thing K H v) (h : isStr v = false) : wordB v = false := by
  cases v with
  | str z => cases h
  | _ => rfl

theorem all_take {l : List Nat} {f : Nat → Bool} : ((l.map f).map V.bl) = (l.map fun c => V.bl (f c)) := by
  rw [List.map_map]
  rfl
theorem take_next {z : Str} {i c : Nat} (h : z.cps[i]? = some c) (f : Nat → V) : ((z.cps.toList.take i).map f) ++ [f c] = (z.cps.toList.take (i + 1)).map f := by
  rw [List.take_add_one, show z.cps.toList[i]? = some c by rw [Array.getElem?_toList]; exact h, List.map_append]
  rfl

/-! ### the pot of draws -/
def Pot (H : Hp) (p : Addr) : Prop := ∃ x y : Int, 0 ≤ x ∧ 0 ≤ y ∧ y < 2147483647 ∧ H p = some (.lst [.int x, .int y])
/-- all but p stays -/
def But (p : Addr) (H H' : Hp) : Prop := ∀ b o, b ≠ p → H b = some o → H' b = some o
theorem But.refl {p : Addr} {H : Hp} : But p H H := fun _ _ _ e => e
theorem But.trans {p : Addr} {H H1 H2 : Hp} (a : But p H H1) (b : But p H1 H2) : But p H H2 := fun c o n e => b c o n (a c o n e)
theorem But.put {p : Addr} {H H1 : Hp} {o : HO} (a : But p H H1) : But p H (upd H1 p o) := fun b x n e => by
  rw [upd_ne n]
  exact a b x n e
theorem But.new {p q : Addr} {H H1 : Hp} {o : HO} (a : But p H H1) (n : H1 q = none) : But p H (upd H1 q o) := fun b x nb e => by
  rw [upd_ne (ne_of_none (a b x nb e) n)]
  exact a b x nb e
theorem Same.but {p : Addr} {H H' : Hp} (s : Same H H') : But p H H' := fun b o _ e => s b o e
theorem same_but {p : Addr} {H0 H H' : Hp} (s : Same H0 H) (n : H0 p = none) (b : But p H H') : Same H0 H' :=
  fun c o e => b c o (ne_of_none e n) (s c o e)

theorem at_in {xs : List V} {i : Int} (h0 : 0 ≤ i) (h1 : i < xs.length) : ∃ v ∈ xs, atI xs i = some v := by
  obtain ⟨n, rfl⟩ : ∃ n : Nat, i = n := ⟨i.toNat, by omega⟩
  have hn : n < xs.length := by omega
  exact ⟨xs[n], List.getElem_mem hn, atI_nat (List.getElem?_eq_getElem hn)⟩

theorem Pot.new {H : Hp} {p q : Addr} {o : HO} (h : Pot H p) (n : H q = none) : Pot (upd H q o) p := by
  obtain ⟨x, y, h1, h2, h3, e⟩ := h
  exact ⟨x, y, h1, h2, h3, same_new n _ _ e⟩
theorem Thing.but {K : PySem.W.Frag} {H H' : Hp} {p : Addr} {v : V} (t : Thing K H v) (n : v ≠ .ref p) (s : But p H H') : Thing K H' v := by
  cases t with
  | str z h => exact .str z h
  | non => exact .non
  | bl b => exact .bl b
  | int i => exact .int i
  | lst h => exact .lst (s _ _ (fun e => n (by rw [e])) h)
  | tup h => exact .tup (s _ _ (fun e => n (by rw [e])) h)
  | dct h => exact .dct (s _ _ (fun e => n (by rw [e])) h)
theorem joinL_len : ∀ ps : List (List Nat), (joinL [] ps).length = (ps.map List.length).sum
  | [] => rfl
  | [p] => by simp [joinL]
  | p :: r :: rs => by
    show (p ++ ([] ++ joinL [] (r :: rs))).length = p.length + ((r :: rs).map List.length).sum
    rw [List.nil_append, List.length_append, joinL_len (r :: rs)]
theorem sum_ones : ∀ ys : List Str, (∀ y ∈ ys, y.length = 1) → (ys.map (·.length)).sum = ys.length
  | [], _ => rfl
  | y :: r, h => by
    rw [List.map_cons, List.sum_cons, sum_ones r fun z hz => h z (List.mem_cons_of_mem _ hz), h y List.mem_cons_self, List.length_cons]
    omega
theorem join_len (ys : List Str) : (Txt.join "" ys).length = (ys.map (·.length)).sum := by
  have e : Txt.join "" ys = Str.join "" ys := by
    unfold Txt.join
    rw [StrLaws.glued_eq_join]
  rw [e, len_tl, tl_join, show tl (Str.ofString "") = [] from rfl, joinL_len, List.map_map]
  congr 1
theorem cut_len (z : Str) (lo hi : Option Int) : (cutS z lo hi).length ≤ z.length := by
  rw [len_tl, len_tl z]
  show (((z.cps.toList.drop _).take _).toArray.toList).length ≤ _
  rw [List.length_take]
  rw [List.length_drop]
  show min _ (z.cps.toList.length - _) ≤ z.cps.toList.length
  omega
theorem none_of {H H' : Hp} {p : Addr} (s : Same H H') (n : H' p = none) : H p = none := by
  cases e : H p with
  | none => rfl
  | some o =>
    rw [s _ _ e] at n
    cases n

/-! ### lists and tuples that stay while the pot is drawn from -/
theorem SqL.but {K : PySem.W.Frag} {H H' : Hp} {p a : Addr} {xs : List V} (h : SqL K H a xs) (n : a ≠ p) (b : But p H H') : SqL K H' a xs := by
  rcases h with (e | ⟨o, e⟩) | e
  · exact .inl (.inl (b _ _ n e))
  · exact .inl (.inr ⟨o, b _ _ n e⟩)
  · exact .inr e
theorem SqT.but {K : PySem.W.Frag} {H H' : Hp} {p a : Addr} {xs : List V} (h : SqT K H a xs) (n : a ≠ p) (b : But p H H') : SqT K H' a xs := by
  rcases h with (e | ⟨o, e⟩) | e
  · exact .inl (.inl (b _ _ n e))
  · exact .inl (.inr ⟨o, b _ _ n e⟩)
  · exact .inr e
theorem SqT.same {K : PySem.W.Frag} {H H' : Hp} {a : Addr} {xs : List V} (h : SqT K H a xs) (b : Same H H') : SqT K H' a xs := by
  rcases h with (e | ⟨o, e⟩) | e
  · exact .inl (.inl (b _ _ e))
  · exact .inl (.inr ⟨o, b _ _ e⟩)
  · exact .inr e
theorem Pot.same {H H' : Hp} {p : Addr} (h : Pot H p) (s : Same H H') : Pot H' p := by
  obtain ⟨x, y, h1, h2, h3, e⟩ := h
  exact ⟨x, y, h1, h2, h3, s _ _ e⟩
theorem Pot.ne {H : Hp} {p q : Addr} (h : Pot H p) (n : H q = none) : q ≠ p := fun e => by
  obtain ⟨x, y, _, _, _, z⟩ := h
  rw [e, z] at n
  cases n
theorem But.none {p q : Addr} {H H' : Hp} (b : But p H H') (n : H' q = none) (ne : q ≠ p) : H q = none := by
  cases e : H q with
  | none => rfl
  | some o =>
    rw [b _ _ ne e] at n
    cases n
end Kc
set_option Elab.async false
set_option linter.all false
set_option maxRecDepth 100000
namespace K14
open PySem PySem.Spec PyProof.Rows L2 Kx Kz Kc
/-! ### the text -/
def topS (i : Nat) : Stmt := PySem.Challenge.pw_mergereach_k14_versions_judged.main.body.getD i (.Pass ⟨0, 0, 0, 0⟩)
abbrev sName : Stmt := topS 14
abbrev sWhole : Stmt := topS 15
abbrev sField : Stmt := topS 16
abbrev sProb : Stmt := topS 17
abbrev sValue : Stmt := topS 19
abbrev sVersion : Stmt := topS 20
abbrev sPot : Stmt := topS 22
abbrev sDraw : Stmt := topS 23
abbrev sMixed : Stmt := topS 24
abbrev sWord : Stmt := topS 25
abbrev sWords : Stmt := topS 26
abbrev sFields : Stmt := topS 27
abbrev sStep : Stmt := topS 28
abbrev sPlan : Stmt := topS 29
abbrev sRow : Stmt := topS 30
abbrev sRows : Stmt := topS 31
abbrev sAny : Stmt := topS 32
abbrev sIsInt : Stmt := topS 33
abbrev sIsWord : Stmt := topS 34
abbrev sIsRow : Stmt := topS 35
abbrev sSome : Stmt := topS 36
abbrev sOdd : Stmt := topS 37
abbrev sLaw : Stmt := topS 38
abbrev sInit : Stmt := inClass (topS 18) 2
abbrev sLen : Stmt := inClass (topS 18) 4
abbrev sFlds : Stmt := inClass (topS 18) 8
theorem scName : FnScope ["thing", "letter"] ["thing"] (defScope sName) := ⟨rfl, rfl, rfl, by decide +kernel, rfl, by decide +kernel, by decide +kernel⟩
theorem scWhole : FnScope ["thing"] ["thing"] (defScope sWhole) := ⟨rfl, rfl, rfl, by decide +kernel, rfl, by decide +kernel, by decide +kernel⟩
theorem scField : FnScope ["thing", "name", "kind"] ["thing"] (defScope sField) := ⟨rfl, rfl, rfl, by decide +kernel, rfl, by decide +kernel, by decide +kernel⟩
theorem scProb : FnScope ["field", "earlier", "name", "kind", "alike", "most", "row"] ["field", "earlier"] (defScope sProb) := ⟨rfl, rfl, rfl, by decide +kernel, rfl, by decide +kernel, by decide +kernel⟩
theorem scValue : FnScope ["kind", "thing"] ["kind", "thing"] (defScope sValue) := ⟨rfl, rfl, rfl, by decide +kernel, rfl, by decide +kernel, by decide +kernel⟩
theorem scVersion : FnScope ["schema", "thing", "name", "kind", "value"] ["schema", "thing"] (defScope sVersion) := ⟨rfl, rfl, rfl, by decide +kernel, rfl, by decide +kernel, by decide +kernel⟩
theorem scPot : FnScope ["_law_script", "_law_k", "_law_digits"] ["_law_script", "_law_k"] (defScope sPot) := ⟨rfl, rfl, rfl, by decide +kernel, rfl, by decide +kernel, by decide +kernel⟩
theorem scDraw : FnScope ["_law_pot_here", "_law_many", "_law_digit"] ["_law_pot_here", "_law_many"] (defScope sDraw) := ⟨rfl, rfl, rfl, by decide +kernel, rfl, by decide +kernel, by decide +kernel⟩
theorem scMixed : FnScope ["_law_pot_here", "_law_given", "_law_left", "_law_k"] ["_law_pot_here", "_law_given"] (defScope sMixed) := ⟨rfl, rfl, rfl, by decide +kernel, rfl, by decide +kernel, by decide +kernel⟩
theorem scWord : FnScope ["_law_pot_here", "_law_taken", "_law_letters", "_law_word_here", "_law_k", "_law_letter"] ["_law_pot_here", "_law_taken"] (defScope sWord) := ⟨rfl, rfl, rfl, by decide +kernel, rfl, by decide +kernel, by decide +kernel⟩
theorem scWords : FnScope ["_law_pot_here", "_law_many", "_law_found", "_law_k"] ["_law_pot_here", "_law_many"] (defScope sWords) := ⟨rfl, rfl, rfl, by decide +kernel, rfl, by decide +kernel, by decide +kernel⟩
theorem scFields : FnScope ["_law_pot_here", "_law_marks", "_law_sums", "_law_kinds", "_law_k"] ["_law_pot_here", "_law_marks", "_law_sums"] (defScope sFields) := ⟨rfl, rfl, rfl, by decide +kernel, rfl, by decide +kernel, by decide +kernel⟩
theorem scStep : FnScope ["_law_pot_here", "_law_far", "_law_near"] ["_law_pot_here", "_law_far"] (defScope sStep) := ⟨rfl, rfl, rfl, by decide +kernel, rfl, by decide +kernel, by decide +kernel⟩
theorem scPlan : FnScope ["_law_pot_here", "_law_fields_here", "_law_far", "_law_sizes", "_law_found", "_law_name", "_law_kind", "_law_group", "_law_size"] ["_law_pot_here", "_law_fields_here", "_law_far"] (defScope sPlan) := ⟨rfl, rfl, rfl, by decide +kernel, rfl, by decide +kernel, by decide +kernel⟩
theorem scRow : FnScope ["_law_pot_here", "_law_fields_here", "_law_plan_here", "_law_spots", "_law_found", "_law_at", "_law_row_here", "_law_group", "_law_pool", "_law_loose", "_law_index"] ["_law_pot_here", "_law_fields_here", "_law_plan_here"] (defScope sRow) := ⟨rfl, rfl, rfl, by decide +kernel, rfl, by decide +kernel, by decide +kernel⟩
theorem scRows : FnScope ["_law_pot_here", "_law_fields_here", "_law_most", "_law_far", "_law_plan_here", "_law_found", "_law_k"] ["_law_pot_here", "_law_fields_here", "_law_most", "_law_far"] (defScope sRows) := ⟨rfl, rfl, rfl, by decide +kernel, rfl, by decide +kernel, by decide +kernel⟩
theorem scAny : FnScope ["_law_pot_here", "_law_far", "_law_some"] ["_law_pot_here"] (defScope sAny) := ⟨rfl, rfl, rfl, by decide +kernel, rfl, by decide +kernel, by decide +kernel⟩
theorem scIsInt : FnScope ["_law_item"] ["_law_item"] (defScope sIsInt) := ⟨rfl, rfl, rfl, by decide +kernel, rfl, by decide +kernel, by decide +kernel⟩
theorem scIsWord : FnScope ["_law_item", "_law_sign"] ["_law_item"] (defScope sIsWord) := ⟨rfl, rfl, rfl, by decide +kernel, rfl, by decide +kernel, by decide +kernel⟩
theorem scIsRow : FnScope ["_law_fields_here", "_law_item", "_law_found", "_law_row_here", "_law_one"] ["_law_fields_here", "_law_item"] (defScope sIsRow) := ⟨rfl, rfl, rfl, by decide +kernel, rfl, by decide +kernel, by decide +kernel⟩
theorem scSome : FnScope ["_law_pot_here", "_law_marks", "_law_sums"] ["_law_pot_here"] (defScope sSome) := ⟨rfl, rfl, rfl, by decide +kernel, rfl, by decide +kernel, by decide +kernel⟩
theorem scOdd : FnScope ["_law_pot_here", "_law_row_here", "_law_way", "_law_at", "_law_some", "_law_odd_here"] ["_law_pot_here", "_law_row_here"] (defScope sOdd) := ⟨rfl, rfl, rfl, by decide +kernel, rfl, by decide +kernel, by decide +kernel⟩
theorem scLaw : FnScope ["_law_script", "_law_k", "_law_pot_here", "_law_rows_here", "_law_made", "_law_row_here", "_law_turn", "_law_odd_here", "_law_some", "_law_item"] ["_law_script"] (defScope sLaw) := ⟨rfl, rfl, rfl, by decide +kernel, rfl, by decide +kernel, by decide +kernel⟩
theorem scInit : FnScope ["self", "fields", "rows", "index", "field", "problem", "name", "kind"] ["self", "fields"] (defScope sInit) := ⟨rfl, rfl, rfl, by decide +kernel, rfl, by decide +kernel, by decide +kernel⟩
theorem scLen : FnScope ["self"] ["self"] (defScope sLen) := ⟨rfl, rfl, rfl, by decide +kernel, rfl, by decide +kernel, by decide +kernel⟩
theorem scFlds : FnScope ["self"] ["self"] (defScope sFlds) := ⟨rfl, rfl, rfl, by decide +kernel, rfl, by decide +kernel, by decide +kernel⟩
/-- a def of the top -/
structure DefAt (K : PySem.W.Frag) (mg : Str → Option Value) (nm : Str) (st : Stmt) (ps : List Str) (f : Addr) (fd : FuncData) : Prop where
  F : Fun K nm nm st f fd
  b : Binds K fd ps []
  g : mg nm = some (.ref f)
structure Tx (mg : Str → Option Value) : Prop where
  len : mg "len" = none
  isi : mg "isinstance" = none
  str : mg "str" = none
  all : mg "all" = none
  mx : mg "max" = none
  mn : mg "min" = none
  abs : mg "abs" = none
  dm : mg "divmod" = none
  rng : mg "range" = none
  rpr : mg "repr" = none
  lst : mg "list" = none
  tup : mg "tuple" = none
  zip : mg "zip" = none
  int : mg "int" = none
  bool : mg "bool" = none
  dict : mg "dict" = none
  enum : mg "enumerate" = none
  let_ : ∃ t, mg "LETTERS" = some (.str abc t)
  most : ∃ t, mg "MOST_LETTERS" = some (.int 8 t)
  cnt : ∃ t, mg "COUNTER" = some (.str "counter" t)
section
variable {K : PySem.W.Frag} {mg : Str → Option Value} {P : Program} {base : Heap} {w : World}
def spName (K : PySem.W.Frag) : Sp := fun vs H Q _ => ∃ v, vs = [v] ∧ Thing K H v ∧ ∀ H', Same H H' → Q (.bl (wordB v)) H'
theorem ok_name {f : Addr} {fd : FuncData} {k : Nat} (F : Fun K "is_name" "is_name" sName f fd) (T : Tx mg) :
    FnOk P w K mg base CX0 (k + 1) f fd ["thing"] (spName K) := by
  refine F.ok scName (fun vs H Q E h => ?_) (fun cdv A outer s H vs Q E hr h => ?_)
  · obtain ⟨v, rfl, _⟩ := h
    rfl
  · obtain ⟨v, rfl, tv, q⟩ := h
    obtain ⟨tl, hl⟩ := T.let_
    obtain ⟨tm, hm⟩ := T.most
    refine ⟨_, pss_cons (ps_if (pt_not (pt_val (pe_callB call_isi (by rfl) T.isi (by decide +kernel) (pa_cons (pv 0) (pa_cons (pe_bltn (v := .ty "str") (by rfl) T.str (by decide +kernel) rfl) pa_nil)))))
        (pss_one (ps_ret pe_bl)) pss_nil)
      (pss_one (ps_ret (pe_and (pe_chain op_le op_le pe_int (pe_callB call_len_str (by rfl) T.len PySem.boot_len (pa_cons (pv 0) pa_nil)) (pe_glob (v := .int 8) (by rfl) hm ⟨_, rfl⟩))
        (pe_one (pe_callB (cr_all rfl) (by rfl) T.all (by decide +kernel) (pa_cons
          (pe_lc (own := [("letter", 1)]) (g := gName 1) (tt := tYes) rfl scName.nd (pi_str (pv 0)) (blkOk_by (N := ["thing", "letter"]) (sc := defScope sName) (by decide +kernel))
            (fun _ _ _ _ _ => pg_name (i := 1) scName.nd rfl (Or.inl rfl)) (fun _ _ _ _ _ => pts_nil)
            (fun _ _ _ _ _ => pe_cmpR op_in_sign (pv 1) (pe_glob (v := .str abc) (by rfl) hl ⟨_, rfl⟩) rfl)) pa_nil)))))), ?_⟩
    obtain ⟨u, ty, ko⟩ := tv.ty
    refine ⟨v, rfl, v, .ty "str", u, .type "str", isStr v, rfl, .ty "str", ty, ko, isStr v, rfl, ?_⟩
    cases hs : isStr v with
    | false =>
      refine iteT ?_
      have := q H fun _ _ e => e
      rw [notStr tv hs] at this
      exact this
    | true =>
      refine iteF ?_
      cases tv with
      | str z hz =>
        -- 1 <= len(thing) <= MOST_LETTERS
        have same0 : Same H H := fun _ _ e => e
        refine ⟨.str z, rfl, z, rfl, hz, 1, z.length, rfl, rfl, _, rfl, ?_⟩
        by_cases c1 : (1 : Int) ≤ z.length
        · rw [decide_eq_true c1]
          refine iteT ⟨_, _, rfl, rfl, _, rfl, ?_⟩
          by_cases c2 : (z.length : Int) ≤ 8
          · rw [decide_eq_true c2]
            refine iteT ⟨.str z, rfl, z, rfl, fun D nD => ?_⟩
            refine lc_it walk_str (fun i H2 => Same H H2 ∧ H2 D = some (.lst ((z.cps.toList.take i).map fun c => V.bl (decide (c ∈ abc.cps.toList)))))
              ⟨same_new nD, upd_same⟩ (fun _ _ _ _ => trivial) (fun i x H2 H3 hi pv y => ?_) (fun H2 pv => ?_)
            · obtain ⟨rfl, c, hc, rfl⟩ := y
              obtain ⟨sm, eD⟩ := pv
              refine ⟨rfl, ?_⟩
              refine kept_yes ?_
              refine ⟨_, rfl, c, abc, rfl, rfl, _, eD, ?_, same_at nD sm, ?_⟩
              · rw [List.length_map, List.length_take]
                have : z.cps.toList.length = z.length := by rw [Array.length_toList]; rfl
                have hi' : i < z.cps.size := hi
                have e2 : z.cps.size = z.length := rfl
                omega
              · rw [upd_same, take_next hc]
            · obtain ⟨sm, eD⟩ := pv
              have e : z.cps.toList.take z.cps.size = z.cps.toList := List.take_of_length_le (by rw [Array.length_toList]; exact Nat.le_refl _)
              rw [e] at eD
              refine ⟨D, z.cps.toList.map fun c => decide (c ∈ abc.cps.toList), rfl, ?_, ?_⟩
              · rw [all_take]
                exact .inl (.inl eD)
              · have := q H2 sm
                simp only [wordB, decide_eq_true c1, decide_eq_true c2, Bool.true_and] at this
                rw [List.all_map]
                exact this
          · rw [decide_eq_false c2]
            refine iteF ?_
            have := q H same0
            simp only [wordB, decide_eq_false c2, Bool.false_and, Bool.and_false] at this
            exact this
        · rw [decide_eq_false c1]
          refine iteF ⟨_, rfl, iteF ?_⟩
          have := q H same0
          simp only [wordB, decide_eq_false c1, Bool.false_and] at this
          exact this
      | _ => cases hs

theorem ok_word {f : Addr} {fd : FuncData} {k : Nat} (F : Fun K "_law_is_word" "_law_is_word" sIsWord f fd) (T : Tx mg) :
    FnOk P w K mg base CX0 (k + 1) f fd ["_law_item"] (spName K) := by
  refine F.ok scIsWord (fun vs H Q E h => ?_) (fun cdv A outer s H vs Q E hr h => ?_)
  · obtain ⟨v, rfl, _⟩ := h
    rfl
  · obtain ⟨v, rfl, tv, q⟩ := h
    refine ⟨_, pss_cons (ps_if (PW.pt (pw_or (pt_not (pt_val (pe_callB call_isi (by rfl) T.isi (by decide +kernel) (pa_cons (pv 0) (pa_cons (pe_bltn (v := .ty "str") (by rfl) T.str (by decide +kernel) rfl) pa_nil)))))
          (pw_or1 (pt_not (pt_chain op_le op_le pe_int (pe_callB call_len_str (by rfl) T.len PySem.boot_len (pa_cons (pv 0) pa_nil)) pe_int)))))
        (pss_one (ps_ret pe_bl)) pss_nil)
      (pss_one (ps_ret (pe_callB (cr_all rfl) (by rfl) T.all (by decide +kernel) (pa_cons
          (pe_lc (own := [("_law_sign", 1)]) (g := gName 1) (tt := tYes) rfl scIsWord.nd (pi_str (pv 0)) (blkOk_by (N := ["_law_item", "_law_sign"]) (sc := defScope sIsWord) (by decide +kernel))
            (fun _ _ _ _ _ => pg_name (i := 1) scIsWord.nd rfl (Or.inl rfl)) (fun _ _ _ _ _ => pts_nil)
            (fun _ _ _ _ _ => pe_cmpR op_in_sign (pv 1) pe_str rfl)) pa_nil)))), ?_⟩
    obtain ⟨u, ty, ko⟩ := tv.ty
    refine ⟨v, rfl, v, .ty "str", u, .type "str", isStr v, rfl, .ty "str", ty, ko, isStr v, rfl, ?_⟩
    cases hs : isStr v with
    | false =>
      refine iteT ?_
      have := q H fun _ _ e => e
      rw [notStr tv hs] at this
      exact iteT this
    | true =>
      refine iteF ?_
      cases tv with
      | str z hz =>
        have same0 : Same H H := fun _ _ e => e
        refine ⟨.str z, rfl, z, rfl, hz, 1, z.length, rfl, rfl, _, rfl, ?_⟩
        by_cases c1 : (1 : Int) ≤ z.length
        · rw [decide_eq_true c1]
          refine iteT ⟨_, _, rfl, rfl, _, rfl, ?_⟩
          by_cases c2 : (z.length : Int) ≤ 8
          · rw [decide_eq_true c2]
            refine iteF ⟨.str z, rfl, z, rfl, fun D nD => ?_⟩
            refine lc_it walk_str (fun i H2 => Same H H2 ∧ H2 D = some (.lst ((z.cps.toList.take i).map fun c => V.bl (decide (c ∈ abc.cps.toList)))))
              ⟨same_new nD, upd_same⟩ (fun _ _ _ _ => trivial) (fun i x H2 H3 hi pv y => ?_) (fun H2 pv => ?_)
            · obtain ⟨rfl, c, hc, rfl⟩ := y
              obtain ⟨sm, eD⟩ := pv
              refine ⟨rfl, ?_⟩
              refine kept_yes ?_
              refine ⟨_, rfl, c, abc, rfl, rfl, _, eD, ?_, same_at nD sm, ?_⟩
              · rw [List.length_map, List.length_take]
                have : z.cps.toList.length = z.length := by rw [Array.length_toList]; rfl
                have hi' : i < z.cps.size := hi
                have e2 : z.cps.size = z.length := rfl
                omega
              · rw [upd_same, take_next hc]
            · obtain ⟨sm, eD⟩ := pv
              have e : z.cps.toList.take z.cps.size = z.cps.toList := List.take_of_length_le (by rw [Array.length_toList]; exact Nat.le_refl _)
              rw [e] at eD
              refine ⟨D, z.cps.toList.map fun c => decide (c ∈ abc.cps.toList), rfl, ?_, ?_⟩
              · rw [all_take]
                exact .inl (.inl eD)
              · have := q H2 sm
                simp only [wordB, decide_eq_true c1, decide_eq_true c2, Bool.true_and] at this
                rw [List.all_map]
                exact this
          · rw [decide_eq_false c2]
            refine iteT ?_
            have := q H same0
            simp only [wordB, decide_eq_false c2, Bool.false_and, Bool.and_false] at this
            exact this
        · rw [decide_eq_false c1]
          refine iteF ⟨_, rfl, iteT ?_⟩
          have := q H same0
          simp only [wordB, decide_eq_false c1, Bool.false_and] at this
          exact this
      | _ => cases hs

def spPot (K : PySem.W.Frag) : Sp := fun vs H Q _ => ∃ (a : Addr) (ns : List Int) (k : Nat), vs = [.ref a, .int k] ∧ SqL K H a (ns.map V.int) ∧ k < 100 ∧
  ∀ H' p, Same H H' → H p = none → Pot H' p → Q (.ref p) H'
theorem ok_pot {f : Addr} {fd : FuncData} {k : Nat} (F : Fun K "_law_pot" "_law_pot" sPot f fd) (T : Tx mg) :
    FnOk P w K mg base CX0 (k + 1) f fd ["_law_script", "_law_k"] (spPot K) := by
  refine F.ok scPot (fun vs H Q E h => ?_) (fun cdv A outer s H vs Q E hr h => ?_)
  · obtain ⟨a, ns, k, rfl, _⟩ := h
    rfl
  · obtain ⟨a, ns, k, rfl, hS, hk, q⟩ := h
    refine ⟨_, pss_cons (ps_set (i := 2) scPot.nd rfl (.inl rfl) (pe_ifExp (pt_cmpR op_lt (pv 1) (pe_callB call_len_seq (by rfl) T.len PySem.boot_len (pa_cons (pv 0) pa_nil)) (nomark _))
          (pe_ix ix_list (pv 0) (pv 1) (fun _ _ => rfl)) pe_int))
      (pss_one (ps_ret (pe_lst (pa_cons (pe_callB (call_max2 rfl) (by rfl) T.mx (by decide +kernel) (pa_cons pe_int (pa_cons (pe_op op_sub (pe_callB call_abs (by rfl) T.abs (by decide +kernel) (pa_cons (pv 2) pa_nil)) (pe_op op_pow pe_int pe_int)) pa_nil)))
        (pa_cons (pe_op op_mod (pe_op op_add (pe_op op_add (pe_op op_mul (pe_op op_mod (pe_callB call_abs (by rfl) T.abs (by decide +kernel) (pa_cons (pv 2) pa_nil)) pe_int) pe_int) (pe_op op_mul pe_int (pv 1))) pe_int) pe_int) pa_nil))))), ?_⟩
    refine ⟨.int k, rfl, .ref a, rfl, a, _, rfl, .inl hS, _, _, rfl, rfl, _, rfl, ?_⟩
    have tail : ∀ x y : Int, 0 ≤ x → 0 ≤ y → y < 2147483647 → ∀ p, H p = none → Q (.ref p) (upd H p (.lst [.int x, .int y])) :=
      fun x y h1 h2 h3 p np => q _ p (same_new np) np ⟨x, y, h1, h2, h3, upd_same⟩
    have fin : ∀ d : Int, 0 ≤ (if d < 0 then -d else d) := fun d => by split <;> omega
    have two : 2 ≤ sizeLine := by decide
    by_cases c : (k : Int) < ((ns.map V.int).length : Int)
    · have hk2 : k < ns.length := by
        rw [List.length_map] at c
        omega
      rw [decide_eq_true c]
      refine iteT ⟨.ref a, rfl, .int k, rfl, a, _, k, .int ns[k], rfl, rfl, hS, atI_nat (by rw [List.getElem?_map, List.getElem?_eq_getElem hk2]; rfl), ?_⟩
      generalize ns[k] = d
      refine ⟨.int d, rfl, d, rfl, 10, 18, rfl, rfl, ⟨by decide, by decide, by decide⟩, _, _, rfl, rfl, 0, _, rfl, .int d, rfl, d, rfl, _, _, rfl, rfl, (by show (0 : Int) < 2147483587; decide), _, _, rfl, rfl, .inr ⟨by decide, by decide⟩,
        .int k, rfl, _, _, rfl, rfl, .inl ⟨by decide, by decide⟩, _, _, rfl, rfl, _, _, rfl, rfl, _, _, rfl, rfl, (by show (0 : Int) < 2147483647; decide), two, tail _ _ ?_ ?_ ?_⟩
      · split <;> omega
      · exact Int.emod_nonneg _ (by decide)
      · exact Int.emod_lt_of_pos _ (by decide)
    · rw [decide_eq_false c]
      refine iteF ?_
      refine ⟨.int 0, rfl, 0, rfl, 10, 18, rfl, rfl, ⟨by decide, by decide, by decide⟩, _, _, rfl, rfl, 0, _, rfl, .int 0, rfl, 0, rfl, _, _, rfl, rfl, (by show (0 : Int) < 2147483587; decide), _, _, rfl, rfl, .inr ⟨by decide, by decide⟩,
        .int k, rfl, _, _, rfl, rfl, .inl ⟨by decide, by decide⟩, _, _, rfl, rfl, _, _, rfl, rfl, _, _, rfl, rfl, (by show (0 : Int) < 2147483647; decide), two, tail _ _ ?_ ?_ ?_⟩
      · split <;> omega
      · exact Int.emod_nonneg _ (by decide)
      · exact Int.emod_lt_of_pos _ (by decide)

def spDraw : Sp := fun vs H Q _ => ∃ (p : Addr) (m : Int), vs = [.ref p, .int m] ∧ Pot H p ∧ 0 < m ∧ m < 1073741824 ∧
  ∀ H' d, But p H H' → Pot H' p → 0 ≤ d → d < m → Q (.int d) H'
theorem ok_draw {f : Addr} {fd : FuncData} {k : Nat} (F : Fun K "_law_draw" "_law_draw" sDraw f fd) (T : Tx mg) :
    FnOk P w K mg base CX0 (k + 1) f fd ["_law_pot_here", "_law_many"] spDraw := by
  refine F.ok scDraw (fun vs H Q E h => ?_) (fun cdv A outer s H vs Q E hr h => ?_)
  · obtain ⟨p, m, rfl, _⟩ := h
    rfl
  · obtain ⟨p, m, rfl, ⟨x, y, hx, hy, hy2, hp⟩, m0, m1, q⟩ := h
    refine ⟨_, pss_cons (ps_if (pt_cmpR op_gt (pe_ix ix_list (pv 0) pe_int (fun _ _ => rfl)) pe_int (nomark _))
        (pss_cons (ps_asg (pe_callB call_divmod (by rfl) T.dm (by decide +kernel) (pa_cons (pe_ix ix_list (pv 0) pe_int (fun _ _ => rfl)) (pa_cons (pv 1) pa_nil)))
            (pg_tup rfl (pgs_cons (pg_sub (pv 0) pe_int set_list) (pgs_cons (pg_name (i := 2) scDraw.nd rfl (.inl rfl)) pgs_nil))))
          (pss_one (ps_ret (pv 2)))) pss_nil)
      (pss_cons (ps_asg (pe_op op_mod (pe_op op_add (pe_op op_mul (pe_ix ix_list (pv 0) pe_int (fun _ _ => rfl)) pe_int) pe_int) pe_int) (pg_sub (pv 0) pe_int set_list))
      (pss_one (ps_ret (pe_op op_mod (pe_op op_fdiv (pe_op op_mod (pe_op op_mul (pe_ix ix_list (pv 0) pe_int (fun _ _ => rfl)) (pe_ix ix_list (pv 0) pe_int (fun _ _ => rfl))) pe_int) pe_int) (pv 1))))), ?_⟩
    have sq : SqL K H p [.int x, .int y] := .inl (.inl hp)
    refine ⟨.ref p, rfl, p, _, 0, .int x, rfl, rfl, sq, atI_nat (j := 0) rfl, x, 0, rfl, rfl, _, rfl, ?_⟩
    by_cases c : x > 0
    · rw [decide_eq_true c]
      refine iteT ⟨.ref p, rfl, p, _, 0, .int x, rfl, rfl, sq, atI_nat (j := 0) rfl, .int m, rfl, x, m, rfl, ⟨m0, m1⟩, fun T nT => ?_⟩
      have npT : p ≠ T := ne_of_none hp nT
      have hp2 : (upd H T (.tup [.int (x / m), .int (x % m)])) p = some (.lst [.int x, .int y]) := by
        rw [upd_ne npT]
        exact hp
      refine ⟨T, [.int (x / m), .int (x % m)], rfl, .inl (.inl upd_same), rfl, .int (x / m), [.int (x % m)], rfl, .ref p, rfl, p, _, 0, 0, rfl, rfl, hp2, rfl, .int (x % m), [], rfl, rfl, .int (x % m), rfl, ?_⟩
      exact q _ _ (But.put (But.new But.refl nT)) ⟨x / m, y, Int.ediv_nonneg hx (Int.le_of_lt m0), hy, hy2, upd_same⟩ (Int.emod_nonneg _ (by omega)) (Int.emod_lt_of_pos _ m0)
    · rw [decide_eq_false c]
      refine iteF ?_
      have hy3 := Int.emod_nonneg (y * 39373 + 12227) (b := 2147483629) (by decide)
      have hy4 := Int.emod_lt_of_pos (y * 39373 + 12227) (b := 2147483629) (by decide)
      refine ⟨.ref p, rfl, p, _, 1, .int y, rfl, rfl, sq, atI_nat (j := 1) rfl, _, _, rfl, rfl, .inr ⟨by decide, by decide⟩, _, _, rfl, rfl, _, _, rfl, rfl, (by show (0 : Int) < 2147483629; decide),
        .ref p, rfl, p, _, 1, 1, rfl, rfl, hp, rfl, ?_⟩
      have sq2 : SqL K (upd H p (.lst ([.int x, .int y].set 1 (.int ((y * 39373 + 12227) % 2147483629))))) p [.int x, .int ((y * 39373 + 12227) % 2147483629)] := .inl (.inl upd_same)
      refine ⟨.ref p, rfl, p, _, 1, .int ((y * 39373 + 12227) % 2147483629), rfl, rfl, sq2, atI_nat (j := 1) rfl, .ref p, rfl, p, _, 1, .int ((y * 39373 + 12227) % 2147483629), rfl, rfl, sq2, atI_nat (j := 1) rfl, _, _, rfl, rfl, .inl ⟨by omega, by omega⟩, _, _, rfl, rfl, (by show (0 : Int) < 2147483563; decide),
        _, _, rfl, rfl, ⟨by decide, by decide⟩, .int m, rfl, _, _, rfl, rfl, m0, ?_⟩
      exact q _ _ (But.put But.refl) ⟨x, ((y * 39373 + 12227) % 2147483629), hx, hy3, by omega, upd_same⟩ (Int.emod_nonneg _ (by omega)) (Int.emod_lt_of_pos _ m0)
end
end K14
set_option Elab.async false
set_option linter.all false
set_option maxRecDepth 100000
namespace K14
open PySem PySem.Spec PyProof.Rows L2 Kx Kz Kc TL
theorem cons_erase {α : Type} : ∀ (l : List α) (k : Nat) (y : α), l[k]? = some y → (y :: l.eraseIdx k).Perm l
  | [], _, _, h => by simp at h
  | a :: l, 0, y, h => by
    cases Option.some.inj h
    exact List.Perm.refl _
  | a :: l, k + 1, y, h => by
    have ih := cons_erase l k y h
    exact (List.Perm.swap a y _).trans (ih.cons a)
theorem seqIx {i : Int} {n : Nat} (h0 : 0 ≤ i) (h1 : i < n) : seqIndex? i n = some i.toNat := by
  unfold seqIndex?
  have e1 : ¬ i < 0 := by omega
  simp [e1]
  omega
def rLen (K : PySem.W.Frag) : List V → Hp → VK → Prop := fun xs H Q => ∃ p ys, xs = [.ref p] ∧ (SqL K H p ys ∨ SqT K H p ys) ∧ Q (.int ys.length) H
theorem call_lenS {X : Cx} : CallR X (.builtin "len") (rLen X.K) := call_len_seq
section
variable {K : PySem.W.Frag} {mg : Str → Option Value} {P : Program} {base : Heap} {w : World}
def spMixed (K : PySem.W.Frag) : Sp := fun vs H Q _ => ∃ (p g : Addr) (xs : List V), vs = [.ref p, .ref g] ∧ Pot H p ∧ g ≠ p ∧ (SqL K H g xs ∨ SqT K H g xs) ∧ xs.length ≤ 1000 ∧
  ∀ H' l ys, But p H H' → Pot H' p → H l = none → l ≠ p → H' l = some (.lst ys) → ys.Perm xs → Q (.ref l) H'
theorem ok_mixed {f fD : Addr} {fd fdD : FuncData} {k : Nat} (F : Fun K "_law_mixed" "_law_mixed" sMixed f fd) (DD : DefAt K mg "_law_draw" sDraw ["_law_pot_here", "_law_many"] fD fdD) (T : Tx mg) :
    FnOk P w K mg base CX0 (k + 2) f fd ["_law_pot_here", "_law_given"] (spMixed K) := by
  have GD : FnOk P w K mg base CX0 (k + 1) fD fdD ["_law_pot_here", "_law_many"] spDraw := ok_draw DD.F T
  refine F.ok scMixed (fun vs H Q E h => ?_) (fun cdv A outer s H vs Q E hr h => ?_)
  · obtain ⟨p, g, xs, rfl, _⟩ := h
    rfl
  · obtain ⟨p, g, xs, rfl, hp, gp, hg, hx, q⟩ := h
    refine ⟨_, pss_cons (ps_set (i := 2) scMixed.nd rfl (.inr rfl) (pe_callTy call_list_of (by rfl) T.lst (by decide +kernel) (pa_cons (pv 1) pa_nil)))
      (pss_one (ps_ret (pe_lc (own := [("_law_k", 3)]) (g := gName 3) (tt := tYes)
        (te := tBM K "list" rPopAt (tVar 2) (tCons (tCall spDraw [] E0 (tCons (tVar 0) (tCons (tCB (rLen K) (tCons (tVar 2) tNil)) tNil))) tNil)) rfl scMixed.nd (pi_range1 (by rfl) T.rng (pa_cons (pe_callB call_len_seq (by rfl) T.len PySem.boot_len (pa_cons (pv 1) pa_nil)) pa_nil))
        (blkOk_by (N := ["_law_pot_here", "_law_given", "_law_left", "_law_k"]) (sc := defScope sMixed) (by decide +kernel))
        (fun _ _ _ _ _ => pg_name (i := 3) scMixed.nd rfl (Or.inl rfl)) (fun _ _ _ _ _ => pts_nil)
        (fun _ _ _ _ _ => pe_bm PySem.F.plainAttrs_list PySem.F.slot_list_pop PySem.F.type_list_pop mt_popAt (pv 2)
          (pa_cons (pe_call GD hr (by rfl) DD.g DD.F.kp DD.b .nil pass0 (pa_cons (pv 0) (pa_cons (pe_callB call_lenS (by rfl) T.len PySem.boot_len (pa_cons (pv 2) pa_nil)) pa_nil))) pa_nil))))), ?_⟩
    refine ⟨.ref g, rfl, g, xs, rfl, hg, fun lf nlf => ?_⟩
    have s1 : Same H (upd H lf (.lst xs)) := same_new nlf
    have hg1 : SqL K (upd H lf (.lst xs)) g xs ∨ SqT K (upd H lf (.lst xs)) g xs := hg.imp (fun z => s1.seq z) (fun z => Kc.SqT.same z s1)
    have a1 : (upd H lf (.lst xs)) lf = some (.lst xs) := upd_same
    have hp1 : Pot (upd H lf (.lst xs)) p := hp.new nlf
    have lfp : lf ≠ p := hp.ne nlf
    generalize upd H lf (.lst xs) = H1 at *
    refine ⟨.ref g, rfl, g, xs, rfl, hg1, xs.length, rfl, by omega, by omega, fun D nD => ?_⟩
    have Dp : D ≠ p := hp1.ne nD
    have Dl : D ≠ lf := fun e => by
      rw [e, a1] at nD
      cases nD
    refine lc_range (lo := 0) (n := (xs.length : Int).toNat) (fun i H2 => But p H H2 ∧ Pot H2 p ∧ ∃ rest done : List V, H2 lf = some (.lst rest) ∧ H2 D = some (.lst done) ∧ (done ++ rest).Perm xs ∧ rest.length + i = xs.length ∧ done.length = i)
      ⟨(Same.but s1).new nD, hp1.new nD, xs, [], by rw [upd_ne Dl.symm]; exact a1, upd_same, List.Perm.refl _, rfl, rfl⟩ (fun i H2 hi pv => ?_) (fun H2 pv => ?_)
    · obtain ⟨b2, hp2, rest, done, er, ed, pm, ln, dl⟩ := pv
      have hi' : i < xs.length := by omega
      refine ⟨rfl, ?_⟩
      refine kept_yes ?_
      refine ⟨.ref lf, rfl, .inl ⟨rfl, _, SqL.of er⟩, .ref p, rfl, .ref lf, rfl, lf, rest, rfl, .inl (SqL.of er), p, rest.length, rfl, hp2, by omega, by omega, fun H3 d b3 hp3 d0 d1 => ?_⟩
      obtain ⟨n, rfl⟩ := Int.eq_ofNat_of_zero_le d0
      have hn : n < rest.length := by omega
      have er3 := b3 _ _ lfp er
      refine ⟨lf, rest, n, n, rest[n], rfl, rfl, er3, by omega, by omega, by rw [seqIx d0 d1]; rfl, List.getElem?_eq_getElem hn, done, ?_, ?_, fun b o nb e => ?_, ?_, rest.eraseIdx n, done ++ [rest[n]], ?_, upd_same, ?_, ?_, ?_⟩
      · rw [upd_ne Dl]
        exact b3 _ _ Dp ed
      · exact small1000 (by omega)
      · have e1 := s1 _ _ e
        rw [upd_ne (ne_of_none e1 nD), upd_ne (ne_of_none e nlf)]
        exact (b2.trans b3) b o nb e
      · obtain ⟨x, y, h1, h2, h3, ep⟩ := hp3
        exact ⟨x, y, h1, h2, h3, by rw [upd_ne Dp.symm, upd_ne lfp.symm]; exact ep⟩
      · rw [upd_ne Dl.symm, upd_same]
      · rw [List.append_assoc]
        exact ((cons_erase rest n _ (List.getElem?_eq_getElem hn)).append_left done).trans pm
      · have := List.length_eraseIdx_of_lt hn
        omega
      · rw [List.length_append, dl]
        rfl
    · obtain ⟨b2, hp2, rest, done, er, ed, pm, ln, dl⟩ := pv
      have : rest = [] := List.length_eq_zero_iff.mp (by omega)
      rw [this, List.append_nil] at pm
      exact q H2 D done b2 hp2 (none_of s1 nD) Dp ed pm
end
end K14
set_option Elab.async false
set_option linter.all false
set_option maxRecDepth 100000
namespace K14
open PySem PySem.Spec PyProof.Rows L2 Kx Kz Kc TL
theorem inV_str (z : Str) : ∀ ws : List Str, inV (.str z) (ws.map V.str) = decide (z ∈ ws)
  | [] => rfl
  | y :: r => by
    have ih := inV_str z r
    unfold inV at ih ⊢
    rw [List.map_cons, List.any_cons, ih]
    by_cases h : y = z
    · subst h
      simp [eqV]
    · have h' : z ≠ y := fun e => h e.symm
      simp [eqV, h, h']
theorem flat_strs : ∀ ws : List Str, (ws.map V.str).all flatV = true
  | [] => rfl
  | _ :: r => by
    rw [List.map_cons, List.all_cons, flat_strs r]
    rfl
theorem nodup_le {α : Type} [DecidableEq α] : ∀ (xs ys : List α), xs.Nodup → (∀ x ∈ xs, x ∈ ys) → xs.length ≤ ys.length
  | [], ys, _, _ => Nat.zero_le ys.length
  | x :: xs, ys, nd, sub => by
    have hx : x ∈ ys := sub x List.mem_cons_self
    have nd' := List.nodup_cons.mp nd
    have ih := nodup_le xs (ys.erase x) nd'.2 fun y hy => (List.mem_erase_of_ne (fun e => nd'.1 (by rw [← e]; exact hy))).mpr (sub y (List.mem_cons_of_mem _ hy))
    have := List.length_erase_of_mem hx
    have pos : 0 < ys.length := List.length_pos_of_mem hx
    rw [List.length_cons]
    omega
theorem sign_inj {c d : Nat} (h : (⟨#[c]⟩ : Str) = ⟨#[d]⟩) : c = d := by
  have := congrArg Str.cps h
  simpa using this
/-- some letter is not taken -/
theorem letter_free (ws : List Str) (h : ws.length ≤ 25) : (abc.cps.toList.filter fun c => !decide ((⟨#[c]⟩ : Str) ∈ ws)) ≠ [] := fun e => by
  have all : ∀ c ∈ abc.cps.toList, (⟨#[c]⟩ : Str) ∈ ws := fun c hc => by
    refine Classical.byContradiction fun no => ?_
    have : c ∈ (abc.cps.toList.filter fun c => !decide ((⟨#[c]⟩ : Str) ∈ ws)) := List.mem_filter.mpr ⟨hc, by rw [decide_eq_false no]; rfl⟩
    rw [e] at this
    cases this
  have nd : (abc.cps.toList.map fun c => (⟨#[c]⟩ : Str)).Nodup := by decide +kernel
  have le := nodup_le _ ws nd fun z hz => by
    obtain ⟨c, hc, rfl⟩ := List.mem_map.mp hz
    exact all c hc
  rw [List.length_map] at le
  have : abc.cps.toList.length = 26 := by decide +kernel
  omega
theorem mem_joinL : ∀ (ps : List (List Nat)) (c : Nat), c ∈ joinL [] ps → ∃ q ∈ ps, c ∈ q
  | [], c, h => by cases h
  | [p], c, h => ⟨p, List.mem_cons_self, h⟩
  | p :: r :: rs, c, h => by
    have h' : c ∈ p ++ ([] ++ joinL [] (r :: rs)) := h
    rw [List.nil_append] at h'
    rcases List.mem_append.mp h' with z | z
    · exact ⟨p, List.mem_cons_self, z⟩
    · obtain ⟨q, hq, hc⟩ := mem_joinL (r :: rs) c z
      exact ⟨q, List.mem_cons_of_mem _ hq, hc⟩
/-- letters joined are a word -/
theorem word_join (ys : List Str) (h : ∀ y ∈ ys, ∃ c ∈ abc.cps.toList, y = ⟨#[c]⟩) (h1 : 1 ≤ ys.length) (h8 : ys.length ≤ 8) : wordB (.str (Txt.join "" ys)) = true := by
  have one : ∀ y ∈ ys, y.length = 1 := fun y hy => by
    obtain ⟨c, _, rfl⟩ := h y hy
    rfl
  have ln : (Txt.join "" ys).length = ys.length := by rw [join_len, sum_ones ys one]
  have e : Txt.join "" ys = Str.join "" ys := by
    unfold Txt.join
    rw [StrLaws.glued_eq_join]
  have all : ∀ c ∈ (Txt.join "" ys).cps.toList, c ∈ abc.cps.toList := fun c hc => by
    have hc' : c ∈ tl (Str.join "" ys) := by rw [← e]; exact hc
    rw [tl_join] at hc'
    obtain ⟨q, hq, hcq⟩ := mem_joinL _ c hc'
    obtain ⟨y, hy, rfl⟩ := List.mem_map.mp hq
    obtain ⟨d, hd, rfl⟩ := h y hy
    have : c = d := by simpa [tl] using hcq
    rw [this]
    exact hd
  simp only [wordB, Bool.and_eq_true, decide_eq_true_eq, List.all_eq_true]
  refine ⟨by omega, by omega, all⟩
theorem word_sign {c : Nat} (h : c ∈ abc.cps.toList) : wordB (.str ⟨#[c]⟩) = true := by
  simp only [wordB, Bool.and_eq_true, decide_eq_true_eq, List.all_eq_true]
  refine ⟨by show (1 : Int) ≤ ((1 : Nat) : Int); decide, by show ((1 : Nat) : Int) ≤ 8; decide, fun d hd => ?_⟩
  have : d = c := by simpa using hd
  rw [this]
  exact h
section
variable {K : PySem.W.Frag} {mg : Str → Option Value} {P : Program} {base : Heap} {w : World}
def spWord (K : PySem.W.Frag) : Sp := fun vs H Q _ => ∃ (p t : Addr) (ws : List Str), vs = [.ref p, .ref t] ∧ Pot H p ∧ t ≠ p ∧ SqL K H t (ws.map V.str) ∧ ws.length ≤ 25 ∧
  ∀ H' z, But p H H' → Pot H' p → wordB (.str z) = true → z ∉ ws → Q (.str z) H'
theorem ok_wordD {f fD : Addr} {fd fdD : FuncData} {k : Nat} (F : Fun K "_law_word" "_law_word" sWord f fd) (DD : DefAt K mg "_law_draw" sDraw ["_law_pot_here", "_law_many"] fD fdD) (T : Tx mg) :
    FnOk P w K mg base CX0 (k + 2) f fd ["_law_pot_here", "_law_taken"] (spWord K) := by
  have GD : FnOk P w K mg base CX0 (k + 1) fD fdD ["_law_pot_here", "_law_many"] spDraw := ok_draw DD.F T
  refine F.ok scWord (fun vs H Q E h => ?_) (fun cdv A outer s H vs Q E hr h => ?_)
  · obtain ⟨p, t, ws, rfl, _⟩ := h
    rfl
  · obtain ⟨p, t, ws, rfl, hp, tp, ht, hw, q⟩ := h
    refine ⟨_, pss_cons (ps_set (i := 2) scWord.nd rfl (.inr rfl) pe_str)
      (pss_cons (ps_set (i := 3) scWord.nd rfl (.inl rfl) (pe_join pe_str (pe_lc (own := [("_law_k", 4)]) (g := gName 4) (tt := tYes) rfl scWord.nd
          (pi_range1 (by rfl) T.rng (pa_cons (pe_ix ix_list (pe_lst (pa_cons pe_int (pa_cons pe_int (pa_cons pe_int (pa_cons pe_int pa_nil))))) (pe_call GD hr (by rfl) DD.g DD.F.kp DD.b .nil pass0 (pa_cons (pv 0) (pa_cons pe_int pa_nil))) (fun _ _ => rfl)) pa_nil))
          (blkOk_by (N := ["_law_pot_here", "_law_taken", "_law_letters", "_law_word_here", "_law_k", "_law_letter"]) (sc := defScope sWord) (by decide +kernel))
          (fun _ _ _ _ _ => pg_name (i := 4) scWord.nd rfl (Or.inl rfl)) (fun _ _ _ _ _ => pts_nil)
          (fun _ _ _ _ _ => pe_ix ix_str (pv 2) (pe_call GD hr (by rfl) DD.g DD.F.kp DD.b .nil pass0 (pa_cons (pv 0) (pa_cons pe_int pa_nil))) (fun _ _ => rfl)))))
      (pss_cons (ps_if (pt_cmpR op_in_seq (pv 3) (pv 1) rfl)
        (pss_one (ps_set (i := 3) scWord.nd rfl (.inl rfl) (pe_ix ix_list (pe_lc (own := [("_law_letter", 5)]) (g := gName 5) (tt := tTest (tOp (rIn K true) (tVar 5) (tVar 1))) rfl scWord.nd (pi_str (pv 2))
          (blkOk_by (N := ["_law_pot_here", "_law_taken", "_law_letters", "_law_word_here", "_law_k", "_law_letter"]) (sc := defScope sWord) (by decide +kernel))
          (fun _ _ _ _ _ => pg_name (i := 5) scWord.nd rfl (Or.inl rfl)) (fun _ _ _ _ _ => pts_one (pt_cmpR op_notIn_seq (pv 5) (pv 1) rfl))
          (fun _ _ _ _ _ => pv 5)) pe_int (fun _ _ => rfl)))) pss_nil)
      (pss_one (ps_ret (pv 3))))), ?_⟩
    have abcL : abc.length ≤ sizeLine := by decide
    -- the word
    refine ⟨⟨_, rfl⟩, (by show 4 ≤ sizeLine; decide), fun l4 n4 => ?_⟩
    have s4 : Same H (upd H l4 (.lst [.int 1, .int 1, .int 2, .int 8])) := same_new n4
    have a4 : (upd H l4 (.lst [.int 1, .int 1, .int 2, .int 8])) l4 = some (.lst [.int 1, .int 1, .int 2, .int 8]) := upd_same
    have hp4 := hp.new (o := .lst [.int 1, .int 1, .int 2, .int 8]) n4
    have l4p := hp.ne n4
    refine ⟨.ref p, rfl, p, 4, rfl, hp4, by decide, by decide, fun H1 m b1 hp1 m0 m1 => ?_⟩
    obtain ⟨v, vi, va⟩ := at_in (xs := [V.int 1, V.int 1, V.int 2, V.int 8]) m0 m1
    obtain ⟨n, rfl, n1, n8⟩ : ∃ n : Int, v = .int n ∧ 1 ≤ n ∧ n ≤ 8 := by
      simp only [List.mem_cons, List.not_mem_nil, or_false] at vi
      rcases vi with rfl | rfl | rfl | rfl <;> exact ⟨_, rfl, by decide, by decide⟩
    refine ⟨l4, _, m, .int n, rfl, rfl, .inl (.inl (b1 _ _ l4p a4)), va, n, rfl, by omega, by omega, fun D nD => ?_⟩
    have b01 : But p H H1 := (Same.but s4).trans b1
    have Dp := hp1.ne nD
    refine lc_range (lo := 0) (n := n.toNat) (fun i H2 => But p H H2 ∧ Pot H2 p ∧ ∃ ys : List Str, H2 D = some (.lst (ys.map V.str)) ∧ ys.length = i ∧ ∀ y ∈ ys, ∃ c ∈ abc.cps.toList, y = ⟨#[c]⟩)
      ⟨b01.new nD, hp1.new nD, [], upd_same, rfl, fun _ h => nomatch h⟩ (fun i H2 hi pv => ?_) (fun H2 pv => ?_)
    · obtain ⟨b2, hp2, ys, eD, el, ey⟩ := pv
      refine ⟨rfl, ?_⟩
      refine kept_yes ?_
      refine ⟨.str abc, rfl, .ref p, rfl, p, 26, rfl, hp2, by decide, by decide, fun H3 d b3 hp3 d0 d1 => ?_⟩
      obtain ⟨c, ci, ec⟩ : ∃ c ∈ abc.cps.toList, atI abc.cps.toList d = some c := by
        obtain ⟨j, rfl⟩ := Int.eq_ofNat_of_zero_le d0
        have hj : j < abc.cps.toList.length := by
          show j < 26
          omega
        exact ⟨_, List.getElem_mem hj, atI_nat (List.getElem?_eq_getElem hj)⟩
      refine ⟨abc, d, c, rfl, rfl, abcL, ec, _, b3 _ _ Dp eD, ?_, fun b o nb e => ?_, ?_, ys ++ [⟨#[c]⟩], ?_, ?_, ?_⟩
      · rw [List.length_map, el]
        exact small1000 (by omega)
      · rw [upd_ne (ne_of_none (b01 b o nb e) nD)]
        exact (b2.trans b3) b o nb e
      · obtain ⟨x, y, h1, h2, h3, ep⟩ := hp3
        exact ⟨x, y, h1, h2, h3, by rw [upd_ne Dp.symm]; exact ep⟩
      · rw [upd_same, List.map_append]
        rfl
      · rw [List.length_append, el]
        rfl
      · intro y hy
        rcases List.mem_append.mp hy with z | z
        · exact ey y z
        · exact ⟨c, ci, List.mem_singleton.mp z⟩
    · obtain ⟨b2, hp2, ys, eD, el, ey⟩ := pv
      have one : ∀ y ∈ ys, y.length = 1 := fun y hy => by
        obtain ⟨c, _, rfl⟩ := ey y hy
        rfl
      have sum1 := sum_ones ys one
      refine ⟨"", D, ys, rfl, rfl, .inl (.inl (.inl eD)), ?_, ?_⟩
      · rw [sum1]
        show ys.length + ys.length * 0 ≤ 16777216
        omega
      have wd := word_join ys ey (by omega) (by omega)
      generalize Txt.join "" ys = z at *
      have ht2 : SqL K H2 t (ws.map V.str) := Kc.SqL.but ht tp b2
      refine ⟨.str z, rfl, .ref t, rfl, t, _, rfl, .inl ht2, rfl, flat_strs ws, _, rfl, ?_⟩
      rw [inV_str]
      by_cases c : z ∈ ws
      · show (if (if false = true then !decide (z ∈ ws) else decide (z ∈ ws)) = true then _ else _)
        rw [if_neg Bool.false_ne_true, decide_eq_true c]
        refine iteT ⟨.str abc, rfl, abc, rfl, fun D2 nD2 => ?_⟩
        have D2p := hp2.ne nD2
        refine lc_it walk_str (fun i H3 => But p H H3 ∧ Pot H3 p ∧ H3 D2 = some (.lst (((abc.cps.toList.take i).filter fun c => !decide ((⟨#[c]⟩ : Str) ∈ ws)).map fun c => V.str ⟨#[c]⟩)))
          ⟨b2.new nD2, hp2.new nD2, upd_same⟩ (fun _ _ _ _ => trivial) (fun i x H3 H3' hi pv y => ?_) (fun H3 pv => ?_)
        · obtain ⟨rfl, c, hc, rfl⟩ := y
          obtain ⟨b3, hp3, e3⟩ := pv
          have ht3 : SqL K H3' t (ws.map V.str) := Kc.SqL.but ht tp b3
          refine ⟨rfl, .str ⟨#[c]⟩, rfl, .ref t, rfl, t, _, rfl, .inl ht3, rfl, flat_strs ws, _, rfl, ?_⟩
          rw [inV_str]
          have nx : (abc.cps.toList.take (i + 1)).filter (fun c => !decide ((⟨#[c]⟩ : Str) ∈ ws)) = (abc.cps.toList.take i).filter (fun c => !decide ((⟨#[c]⟩ : Str) ∈ ws)) ++ (if (⟨#[c]⟩ : Str) ∈ ws then [] else [c]) := by
            rw [List.take_add_one, show abc.cps.toList[i]? = some c by rw [Array.getElem?_toList]; exact hc, List.filter_append]
            by_cases cc : (⟨#[c]⟩ : Str) ∈ ws
            · simp [cc]
            · simp [cc]
          by_cases cc : (⟨#[c]⟩ : Str) ∈ ws
          · show (if (if true = true then !decide ((⟨#[c]⟩ : Str) ∈ ws) else decide ((⟨#[c]⟩ : Str) ∈ ws)) = true then _ else _)
            rw [if_pos rfl, decide_eq_true cc]
            refine iteF ⟨b3, hp3, ?_⟩
            rw [nx, if_pos cc, List.append_nil]
            exact e3
          · show (if (if true = true then !decide ((⟨#[c]⟩ : Str) ∈ ws) else decide ((⟨#[c]⟩ : Str) ∈ ws)) = true then _ else _)
            rw [if_pos rfl, decide_eq_false cc]
            refine iteT ⟨.str ⟨#[c]⟩, rfl, _, e3, ?_, fun b o nb e => ?_, ?_, ?_⟩
            · have h1 := List.length_filter_le (fun c => !decide ((⟨#[c]⟩ : Str) ∈ ws)) (abc.cps.toList.take i)
              rw [List.length_take] at h1
              have h26 : abc.cps.toList.length = 26 := by decide +kernel
              rw [List.length_map]
              exact small1000 (by omega)
            · rw [upd_ne (ne_of_none (b2 b o nb e) nD2)]
              exact b3 b o nb e
            · obtain ⟨x, y, h1, h2, h3, ep⟩ := hp3
              exact ⟨x, y, h1, h2, h3, by rw [upd_ne D2p.symm]; exact ep⟩
            · rw [upd_same, nx, if_neg cc, List.map_append]
              rfl
        · obtain ⟨b3, hp3, e3⟩ := pv
          have e26 : abc.cps.toList.take abc.cps.size = abc.cps.toList := List.take_of_length_le (by rw [Array.length_toList]; exact Nat.le_refl _)
          rw [e26] at e3
          have ne := letter_free ws hw
          obtain ⟨c, r, ef⟩ : ∃ c r, (abc.cps.toList.filter fun c => !decide ((⟨#[c]⟩ : Str) ∈ ws)) = c :: r := by
            cases h : (abc.cps.toList.filter fun c => !decide ((⟨#[c]⟩ : Str) ∈ ws)) with
            | nil => exact absurd h ne
            | cons c r => exact ⟨c, r, rfl⟩
          have cm : c ∈ (abc.cps.toList.filter fun c => !decide ((⟨#[c]⟩ : Str) ∈ ws)) := by
            rw [ef]
            exact List.mem_cons_self
          obtain ⟨c1, c2⟩ := List.mem_filter.mp cm
          rw [ef] at e3
          refine ⟨D2, _, 0, .str ⟨#[c]⟩, rfl, rfl, .inl (.inl e3), atI_nat (j := 0) rfl, .str ⟨#[c]⟩, rfl, ?_⟩
          refine q H3 _ b3 hp3 (word_sign c1) fun z => ?_
          rw [decide_eq_true z] at c2
          cases c2
      · show (if (if false = true then !decide (z ∈ ws) else decide (z ∈ ws)) = true then _ else _)
        rw [if_neg Bool.false_ne_true, decide_eq_false c]
        refine iteF ?_
        exact ⟨.str z, rfl, q H2 z b2 hp2 wd c⟩
end
end K14
set_option Elab.async false
set_option linter.all false
set_option maxRecDepth 100000
namespace K14
open PySem PySem.Spec PyProof.Rows L2 Kx Kz Kc TL
abbrev ctr : Str := "counter"
def isC (k : Str) : Bool := decide (k = ctr)
/-- fields of a schema: a labels, b counters -/
structure RowsOk (rows : List (Str × Str)) (a b : Nat) : Prop where
  nd : (rows.map (·.1)).Nodup
  nm : ∀ r ∈ rows, wordB (.str r.1) = true
  kd : ∀ r ∈ rows, r.2 = "mine" ∨ r.2 = "theirs" ∨ r.2 = "counter"
  cs : (rows.filter fun r => isC r.2).length = b
  ls : (rows.filter fun r => !isC r.2).length = a
theorem RowsOk.len {rows : List (Str × Str)} {a b : Nat} (h : RowsOk rows a b) : rows.length = a + b := by
  have : ∀ l : List (Str × Str), l.length = (l.filter fun r => !isC r.2).length + (l.filter fun r => isC r.2).length := by
    intro l
    induction l with
    | nil => rfl
    | cons x r ih =>
      cases c : isC x.2 with
      | true => simp [c]; omega
      | false => simp [c]; omega
  rw [this, h.ls, h.cs]
/-- tuples that stand for the rows -/
def RowsAt (H : Hp) (ts : List Addr) (rows : List (Str × Str)) : Prop :=
  ts.length = rows.length ∧ ∀ (j : Nat) (t : Addr), ts[j]? = some t → ∃ r, rows[j]? = some r ∧ H t = some (.tup [.str r.1, .str r.2])
theorem RowsAt.same {H H' : Hp} {ts : List Addr} {rows : List (Str × Str)} (h : RowsAt H ts rows) (s : Same H H') : RowsAt H' ts rows :=
  ⟨h.1, fun j t e => let ⟨r, e1, e2⟩ := h.2 j t e; ⟨r, e1, s _ _ e2⟩⟩
theorem RowsAt.but {H H' : Hp} {ts : List Addr} {rows : List (Str × Str)} {p : Addr} (h : RowsAt H ts rows) (s : But p H H') (n : p ∉ ts) : RowsAt H' ts rows :=
  ⟨h.1, fun j t e => let ⟨r, e1, e2⟩ := h.2 j t e; ⟨r, e1, s _ _ (fun z => n (by rw [← z]; exact List.mem_of_getElem? e)) e2⟩⟩
def unS : V → Str
  | .str z => z
  | _ => ""
theorem perm_strs {ys : List V} {ks : List Str} (h : ys.Perm (ks.map V.str)) : ∃ ks' : List Str, ys = ks'.map V.str ∧ ks'.Perm ks := by
  refine ⟨ys.map unS, ?_, ?_⟩
  · rw [List.map_map]
    have : ∀ y ∈ ys, (V.str ∘ unS) y = y := fun y hy => by
      obtain ⟨z, _, rfl⟩ := List.mem_map.mp (h.mem_iff.mp hy)
      rfl
    have e : ys.map (V.str ∘ unS) = ys.map id := List.map_congr_left this
    rw [e, List.map_id]
  · have := h.map unS
    rw [List.map_map, show (unS ∘ V.str) = id from rfl, List.map_id] at this
    exact this
theorem filter_snd : ∀ (l : List (Str × Str)) (f : Str → Bool), (l.filter fun r => f r.2).length = ((l.map (·.2)).filter f).length
  | [], _ => rfl
  | x :: r, f => by
    have ih := filter_snd r f
    cases c : f x.2 <;> simp [c, ih]
theorem rows_mk {ws ks ks' : List Str} {a b : Nat} (hl : ws.length = a + b) (nd : ws.Nodup) (nm : ∀ z ∈ ws, wordB (.str z) = true) (pm : ks'.Perm ks)
    (hk : ks = ks.take a ++ List.replicate b ctr) (ha : (ks.take a).length = a) (hm : ∀ z ∈ ks.take a, z = "mine" ∨ z = "theirs") : RowsOk (ws.zip ks') a b := by
  have kl : ks.length = a + b := by
    have := congrArg List.length hk
    rw [List.length_append, List.length_replicate, ha] at this
    exact this
  have kl' : ks'.length = a + b := pm.length_eq.trans kl
  have ef : (ws.zip ks').map (·.1) = ws := List.map_fst_zip (by omega)
  have es : (ws.zip ks').map (·.2) = ks' := List.map_snd_zip (by omega)
  have nc : ∀ z ∈ ks.take a, isC z = false := fun z hz => by
    rcases hm z hz with e | e <;> rw [e] <;> decide +kernel
  have cC : isC ctr = true := by decide +kernel
  have c1 : (ks.filter isC).length = b := by
    have e1 : (ks.take a).filter isC = [] := List.filter_eq_nil_iff.mpr fun z hz => by rw [nc z hz]; exact Bool.false_ne_true
    have e2 : (List.replicate b ctr).filter isC = List.replicate b ctr := List.filter_eq_self.mpr fun z hz => by rw [(List.mem_replicate.mp hz).2]; exact cC
    rw [hk, List.filter_append, e1, e2, List.nil_append, List.length_replicate]
  have c2 : (ks.filter fun z => !isC z).length = a := by
    have e1 : (ks.take a).filter (fun z => !isC z) = ks.take a := List.filter_eq_self.mpr fun z hz => by rw [nc z hz]; rfl
    have e2 : (List.replicate b ctr).filter (fun z => !isC z) = [] := List.filter_eq_nil_iff.mpr fun z hz => by rw [(List.mem_replicate.mp hz).2, cC]; exact Bool.false_ne_true
    rw [hk, List.filter_append, e1, e2, List.append_nil, ha]
  refine ⟨by rw [ef]; exact nd, fun r hr => nm _ (by rw [← ef]; exact List.mem_map.mpr ⟨r, hr, rfl⟩), fun r hr => ?_, ?_, ?_⟩
  · have hz : r.2 ∈ ks := pm.mem_iff.mp (by rw [← es]; exact List.mem_map.mpr ⟨r, hr, rfl⟩)
    rw [hk] at hz
    rcases List.mem_append.mp hz with z | z
    · rcases hm _ z with e | e
      · exact .inl e
      · exact .inr (.inl e)
    · exact .inr (.inr (List.mem_replicate.mp z).2)
  · rw [filter_snd _ isC, es]
    exact (pm.filter isC).length_eq.trans c1
  · rw [filter_snd _ (fun z => !isC z), es]
    exact (pm.filter _).length_eq.trans c2
theorem flat_rep {α : Type} (x : α) : ∀ n : Nat, (List.replicate n [x]).flatten = List.replicate n x
  | 0 => rfl
  | n + 1 => by
    rw [List.replicate_succ, List.flatten_cons, flat_rep x n, List.replicate_succ]
    rfl
section
variable {K : PySem.W.Frag} {mg : Str → Option Value} {P : Program} {base : Heap} {w : World}
def spWords : Sp := fun vs H Q _ => ∃ (p : Addr) (m : Nat), vs = [.ref p, .int m] ∧ Pot H p ∧ m ≤ 25 ∧
  ∀ (H' : Hp) (l : Addr) (ws : List Str), But p H H' → Pot H' p → H l = none → l ≠ p → H' l = some (.lst (ws.map V.str)) → ws.length = m → (∀ z ∈ ws, wordB (.str z) = true) → ws.Nodup → Q (.ref l) H'
theorem ok_words {f fD fW : Addr} {fd fdD fdW : FuncData} {k : Nat} (F : Fun K "_law_words" "_law_words" sWords f fd) (DD : DefAt K mg "_law_draw" sDraw ["_law_pot_here", "_law_many"] fD fdD)
    (DW : DefAt K mg "_law_word" sWord ["_law_pot_here", "_law_taken"] fW fdW) (T : Tx mg) : FnOk P w K mg base CX0 (k + 3) f fd ["_law_pot_here", "_law_many"] spWords := by
  have GW : FnOk P w K mg base CX0 (k + 2) fW fdW ["_law_pot_here", "_law_taken"] (spWord K) := ok_wordD DW.F DD T
  refine F.ok scWords (fun vs H Q E h => ?_) (fun cdv A outer s H vs Q E hr h => ?_)
  · obtain ⟨p, m, rfl, _⟩ := h
    rfl
  · obtain ⟨p, m, rfl, hp, hm, q⟩ := h
    refine ⟨_, pss_cons (ps_set (i := 2) scWords.nd rfl (.inl rfl) (pe_lst pa_nil))
      (pss_cons (ps_for PassesOwn.never rfl (pi_range1 (by rfl) T.rng (pa_cons (pv 1) pa_nil)) (pg_name (i := 3) scWords.nd rfl (.inl rfl))
        (pss_one (ps_expr (pe_bm PySem.F.plainAttrs_list PySem.F.slot_list_append PySem.F.type_list_append mt_append (pv 2)
          (pa_cons (pe_call GW hr (by rfl) DW.g DW.F.kp DW.b .nil pass0 (pa_cons (pv 0) (pa_cons (pv 2) pa_nil))) pa_nil)))))
      (pss_one (ps_ret (pv 2)))), ?_⟩
    refine ⟨Nat.zero_le _, fun l nl => ?_⟩
    have lp := hp.ne nl
    refine ⟨.int m, rfl, m, rfl, by omega, by omega, ?_⟩
    refine for_it (walk_range (lo := 0) (n := (m : Int).toNat)) (fun i σ H2 => ∃ y3, σ = [some (.ref p), some (.int m), some (.ref l), y3] ∧ But p H H2 ∧ Pot H2 p ∧
        ∃ ws : List Str, H2 l = some (.lst (ws.map V.str)) ∧ ws.length = i ∧ (∀ z ∈ ws, wordB (.str z) = true) ∧ ws.Nodup)
      ⟨none, rfl, But.refl.new nl, hp.new nl, [], upd_same, rfl, (fun _ h => nomatch h), List.nodup_nil⟩ (fun _ _ _ _ _ => trivial) (fun i x σ H2 H2' hi pv y => ?_) (fun σ H2 pv => ?_)
    · obtain ⟨y3, rfl, b2, hp2, ws, el, wl, ww, wn⟩ := pv
      obtain ⟨rfl, rfl⟩ := y
      have hi' : i < m := by omega
      refine ⟨.ref l, rfl, .inl ⟨rfl, _, SqL.of el⟩, .ref p, rfl, .ref l, rfl, p, l, ws, rfl, hp2, lp, .inl (.inl el), by omega, fun H3 z b3 hp3 zw zn => ?_⟩
      have el3 := b3 _ _ lp el
      refine ⟨l, _, _, rfl, rfl, el3, ?_, ?_⟩
      · rw [List.length_map, wl]
        exact small1000 (by omega)
      · refine ⟨_, rfl, fun b o nb e => ?_, ?_, ws ++ [z], ?_, ?_, fun y hy => ?_, ?_⟩
        · rw [upd_ne (ne_of_none e nl)]
          exact (b2.trans b3) b o nb e
        · obtain ⟨x, y, h1, h2, h3, ep⟩ := hp3
          exact ⟨x, y, h1, h2, h3, by rw [upd_ne lp.symm]; exact ep⟩
        · rw [upd_same, List.map_append]
          rfl
        · rw [List.length_append, wl]
          rfl
        · rcases List.mem_append.mp hy with h | h
          · exact ww y h
          · rw [List.mem_singleton.mp h]
            exact zw
        · refine List.nodup_append.mpr ⟨wn, by simp, fun a ha b hb => ?_⟩
          rw [List.mem_singleton.mp hb]
          exact fun e => zn (by rw [← e]; exact ha)
    · obtain ⟨y3, rfl, b2, hp2, ws, el, wl, ww, wn⟩ := pv
      exact ⟨.ref l, rfl, q H2 l ws b2 hp2 nl lp el (by omega) ww wn⟩

def spFields : Sp := fun vs H Q _ => ∃ (p : Addr) (a b : Nat), vs = [.ref p, .int a, .int b] ∧ Pot H p ∧ a + b ≤ 25 ∧
  ∀ (H' : Hp) (l : Addr) (ts : List Addr) (rows : List (Str × Str)), But p H H' → Pot H' p → H l = none → l ≠ p → H' l = some (.lst (ts.map V.ref)) → (∀ t ∈ ts, H t = none) → p ∉ ts → RowsAt H' ts rows → RowsOk rows a b → Q (.ref l) H'
theorem ok_fields {f fD fW fS fM : Addr} {fd fdD fdW fdS fdM : FuncData} {k : Nat} (F : Fun K "_law_fields" "_law_fields" sFields f fd) (DD : DefAt K mg "_law_draw" sDraw ["_law_pot_here", "_law_many"] fD fdD)
    (DW : DefAt K mg "_law_word" sWord ["_law_pot_here", "_law_taken"] fW fdW) (DS : DefAt K mg "_law_words" sWords ["_law_pot_here", "_law_many"] fS fdS) (DM : DefAt K mg "_law_mixed" sMixed ["_law_pot_here", "_law_given"] fM fdM) (T : Tx mg) :
    FnOk P w K mg base CX0 (k + 4) f fd ["_law_pot_here", "_law_marks", "_law_sums"] spFields := by
  have GD : FnOk P w K mg base CX0 (k + 3) fD fdD ["_law_pot_here", "_law_many"] spDraw := ok_draw DD.F T
  have GS : FnOk P w K mg base CX0 (k + 3) fS fdS ["_law_pot_here", "_law_many"] spWords := ok_words DS.F DD DW T
  have GM : FnOk P w K mg base CX0 (k + 3) fM fdM ["_law_pot_here", "_law_given"] (spMixed K) := ok_mixed DM.F DD T
  refine F.ok scFields (fun vs H Q E h => ?_) (fun cdv A outer s H vs Q E hr h => ?_)
  · obtain ⟨p, a, b, rfl, _⟩ := h
    rfl
  · obtain ⟨p, a, b, rfl, hp, hab, q⟩ := h
    refine ⟨_, pss_cons (ps_set (i := 3) scFields.nd rfl (.inl rfl) (pe_op op_cat
        (pe_lc (own := [("_law_k", 4)]) (g := gName 4) (tt := tYes) (te := tOp (rIxL K) (tLst (tCons (tC (.str "mine")) (tCons (tC (.str "theirs")) tNil))) (tCall spDraw [] E0 (tCons (tVar 0) (tCons (tC (.int 2)) tNil))))
          rfl scFields.nd (pi_range1 (by rfl) T.rng (pa_cons (pv 1) pa_nil)) (blkOk_by (N := ["_law_pot_here", "_law_marks", "_law_sums", "_law_kinds", "_law_k"]) (sc := defScope sFields) (by decide +kernel))
          (fun _ _ _ _ _ => pg_name (i := 4) scFields.nd rfl (Or.inl rfl)) (fun _ _ _ _ _ => pts_nil)
          (fun _ _ _ _ _ => pe_ix ix_list (pe_lst (pa_cons pe_str (pa_cons pe_str pa_nil))) (pe_call GD hr (by rfl) DD.g DD.F.kp DD.b .nil pass0 (pa_cons (pv 0) (pa_cons pe_int pa_nil))) (fun _ _ => rfl)))
        (pe_op op_rep (pe_lst (pa_cons pe_str pa_nil)) (pv 2))))
      (pss_one (ps_ret (pe_listZip rfl (by rfl) T.lst (by rfl) T.zip
        (pa_cons (pe_call GS hr (by rfl) DS.g DS.F.kp DS.b .nil pass0 (pa_cons (pv 0) (pa_cons (pe_op op_add (pv 1) (pv 2)) pa_nil)))
          (pa_cons (pe_call GM hr (by rfl) DM.g DM.F.kp DM.b .nil pass0 (pa_cons (pv 0) (pa_cons (pv 3) pa_nil))) pa_nil))))), ?_⟩
    refine ⟨.int a, rfl, a, rfl, by omega, by omega, fun D nD => ?_⟩
    have Dp := hp.ne nD
    refine lc_range (lo := 0) (n := (a : Int).toNat) (fun i H2 => But p H H2 ∧ Pot H2 p ∧ ∃ ks : List Str, H2 D = some (.lst (ks.map V.str)) ∧ ks.length = i ∧ ∀ z ∈ ks, z = "mine" ∨ z = "theirs")
      ⟨But.refl.new nD, hp.new nD, [], upd_same, rfl, fun _ h => nomatch h⟩ (fun i H2 hi pv => ?_) (fun H2 pv => ?_)
    · obtain ⟨b2, hp2, ks, eD, kl, km⟩ := pv
      refine ⟨rfl, ?_⟩
      refine kept_yes ?_
      refine ⟨(by show 2 ≤ sizeLine; decide), fun l2 n2 => ?_⟩
      have l2p := hp2.ne n2
      refine ⟨.ref p, rfl, p, 2, rfl, hp2.new n2, by decide, by decide, fun H3 d b3 hp3 d0 d1 => ?_⟩
      obtain ⟨v, vi, va⟩ := at_in (xs := [V.str "mine", V.str "theirs"]) d0 d1
      obtain ⟨z, rfl, zm⟩ : ∃ z, v = .str z ∧ (z = "mine" ∨ z = "theirs") := by
        simp only [List.mem_cons, List.not_mem_nil, or_false] at vi
        rcases vi with rfl | rfl
        · exact ⟨_, rfl, .inl rfl⟩
        · exact ⟨_, rfl, .inr rfl⟩
      have Dl2 : D ≠ l2 := fun e => by
        rw [← e, eD] at n2
        cases n2
      have eD3 := b3 _ _ Dp (show (upd H2 l2 (.lst [.str "mine", .str "theirs"])) D = _ by rw [upd_ne Dl2]; exact eD)
      have b23 : But p H H3 := b2.trans ((But.new But.refl n2).trans b3)
      refine ⟨l2, _, d, .str z, rfl, rfl, .inl (.inl (b3 _ _ l2p upd_same)), va, _, eD3, ?_, fun b o nb e => ?_, ?_, ks ++ [z], ?_, ?_, fun y hy => ?_⟩
      · rw [List.length_map, kl]
        exact small1000 (by omega)
      · rw [upd_ne (ne_of_none e nD)]
        exact b23 b o nb e
      · obtain ⟨x, y, h1, h2, h3, ep⟩ := hp3
        exact ⟨x, y, h1, h2, h3, by rw [upd_ne Dp.symm]; exact ep⟩
      · rw [upd_same, List.map_append]
        rfl
      · rw [List.length_append, kl]
        rfl
      · rcases List.mem_append.mp hy with h | h
        · exact km y h
        · rw [List.mem_singleton.mp h]
          exact zm
    · obtain ⟨b2, hp2, ks, eD, kl, km⟩ := pv
      refine ⟨(by show 1 ≤ sizeLine; decide), fun c1 nc1 => ⟨.int b, rfl, c1, b, _, rfl, rfl, upd_same, by omega, by omega, ?_, fun c2 nc2 => ?_⟩⟩
      · show 1 * (b : Int).toNat ≤ sizeLine
        exact Nat.le_of_lt (small1000 (by omega))
      have Dc1 : D ≠ c1 := ne_of_none eD nc1
      have e1 : (upd H2 c1 (.lst [.str "counter"])) D = some (.lst (ks.map V.str)) := by rw [upd_ne Dc1]; exact eD
      have Dc2 : D ≠ c2 := ne_of_none e1 nc2
      rw [flat_rep]
      have s12 : Same H2 (upd (upd H2 c1 (.lst [.str "counter"])) c2 (.lst (List.replicate (b : Int).toNat (.str "counter")))) := (same_new nc1).trans (same_new nc2)
      have e2 : (upd (upd H2 c1 (.lst [.str "counter"])) c2 (.lst (List.replicate (b : Int).toNat (.str "counter")))) D = some (.lst (ks.map V.str)) := s12 _ _ eD
      have e3 : (upd (upd H2 c1 (.lst [.str "counter"])) c2 (.lst (List.replicate (b : Int).toNat (.str "counter")))) c2 = some (.lst (List.replicate (b : Int).toNat (.str "counter"))) := upd_same
      generalize upd (upd H2 c1 (.lst [.str "counter"])) c2 (.lst (List.replicate (b : Int).toNat (.str "counter"))) = H3 at *
      refine ⟨D, c2, _, _, rfl, rfl, e2, e3, ?_, fun c3 nc3 => ?_⟩
      · rw [List.length_map, List.length_replicate]
        exact Nat.le_of_lt (small1000 (by omega))
      have eb : (b : Int).toNat = b := Int.toNat_natCast b
      rw [eb]
      have ecat : ks.map V.str ++ List.replicate b (V.str "counter") = (ks ++ List.replicate b ctr).map V.str := by rw [List.map_append, List.map_replicate]
      rw [ecat]
      have s23 : Same H2 (upd H3 c3 (.lst ((ks ++ List.replicate b ctr).map V.str))) := s12.trans (same_new nc3)
      have e4 : (upd H3 c3 (.lst ((ks ++ List.replicate b ctr).map V.str))) c3 = some (.lst ((ks ++ List.replicate b ctr).map V.str)) := upd_same
      have hp4 : Pot (upd H3 c3 (.lst ((ks ++ List.replicate b ctr).map V.str))) p := hp2.same s23
      have c3p : c3 ≠ p := (hp2.same s12).ne nc3
      have b4 : But p H (upd H3 c3 (.lst ((ks ++ List.replicate b ctr).map V.str))) := b2.trans (Same.but s23)
      generalize upd H3 c3 (.lst ((ks ++ List.replicate b ctr).map V.str)) = H4 at *
      -- the words
      refine ⟨.ref p, rfl, .int a, rfl, .int b, rfl, _, _, rfl, rfl, p, a + b, ?_, hp4, hab, fun H5 l5 ws b5 hp5 n5 l5p e5 wl ww wn => ?_⟩
      · show [V.ref p, V.int ((a : Int) + (b : Int))] = [V.ref p, V.int ((a + b : Nat) : Int)]
        rw [Int.natCast_add]
      have e45 := b5 _ _ c3p e4
      refine ⟨.ref p, rfl, .ref c3, rfl, p, c3, _, rfl, hp5, c3p, .inl (.inl (.inl e45)), ?_, fun H6 l6 ys b6 hp6 n6 l6p e6 pm => ?_⟩
      · rw [List.length_map, List.length_append, List.length_replicate]
        omega
      obtain ⟨ks', rfl, pm'⟩ := perm_strs pm
      have e56 := b6 _ _ l5p e5
      have b06 : But p H H6 := (b4.trans b5).trans b6
      have kt : (ks ++ List.replicate b ctr).take a = ks := by
        rw [List.take_append_of_le_length (by omega), List.take_of_length_le (by omega)]
      have rows := rows_mk (ks := ks ++ List.replicate b ctr) (a := a) (b := b) wl wn ww pm' (by rw [kt]) (by rw [kt]; omega) (by rw [kt]; exact km)
      have kl' : ks'.length = a + b := by
        rw [pm'.length_eq, List.length_append, List.length_replicate]
        omega
      refine ⟨l5, l6, _, _, rfl, .inl (.inl e56), .inl (.inl e6), fun H7 l7 ts sm nl nts el tl pr => ?_⟩
      have l7p : l7 ≠ p := hp6.ne nl
      have ntp : p ∉ ts := fun h => by
        obtain ⟨x, y, _, _, _, ep⟩ := hp6
        rw [nts p h] at ep
        cases ep
      refine q H7 l7 ts (ws.zip ks') (b06.trans (Same.but sm)) (hp6.same sm) (b06.none nl l7p) l7p el (fun t ht => b06.none (nts t ht) (fun e => ntp (by rw [← e]; exact ht))) ntp ⟨?_, fun j t ht => ?_⟩ rows
      · rw [tl, List.length_map, List.length_map, List.length_zip]
      · obtain ⟨x, y, hx, hy, hh⟩ := pr j t ht
        rw [List.getElem?_map] at hx hy
        obtain ⟨z1, f1, rfl⟩ := Option.map_eq_some_iff.mp hx
        obtain ⟨z2, f2, rfl⟩ := Option.map_eq_some_iff.mp hy
        exact ⟨(z1, z2), by rw [List.getElem?_zip_eq_some]; exact ⟨f1, f2⟩, hh⟩
end
end K14
set_option Elab.async false
set_option linter.all false
set_option maxRecDepth 100000
namespace K14
open PySem PySem.Spec PyProof.Rows L2 Kx Kz Kc TL
def isInt : V → Bool
  | .int _ => true
  | _ => false
def valB (k : Str) (v : V) : Bool := if isC k then isInt v else wordB v
/-- what a plan says of a field -/
def PlanOf (H : Hp) (k : Str) (e : Addr) : Prop :=
  if isC k = true then ∃ u v : Int, H e = some (.tup [.int u, .int v])
  else ∃ (g : Int) (wl : Addr) (b : Bool) (ws : List Str), H e = some (.tup [.int g, .ref wl, .bl b]) ∧ 0 ≤ g ∧ g < 3 ∧ H wl = some (.lst (ws.map V.str)) ∧ 1 ≤ ws.length ∧ ws.length ≤ 8 ∧ ∀ z ∈ ws, wordB (.str z) = true
def PlanAt (H : Hp) (es : List Addr) (rows : List (Str × Str)) : Prop :=
  es.length = rows.length ∧ ∀ (j : Nat) (e : Addr), es[j]? = some e → ∃ r, rows[j]? = some r ∧ PlanOf H r.2 e
/-- a tuple, or a list that begins with a text -/
def PK (o : HO) : Prop := (∃ xs, o = .tup xs) ∨ ∃ z ws, o = .lst (V.str z :: ws)
def KeepsPK (H H' : Hp) : Prop := ∀ a o, PK o → H a = some o → H' a = some o
theorem KeepsPK.trans {H H1 H2 : Hp} (a : KeepsPK H H1) (b : KeepsPK H1 H2) : KeepsPK H H2 := fun x o k e => b x o k (a x o k e)
theorem Same.pk {H H' : Hp} (s : Same H H') : KeepsPK H H' := fun a o _ e => s a o e
theorem pk_put {H : Hp} {a : Addr} {o o' : HO} (e : H a = some o) (n : ¬ PK o) : KeepsPK H (upd H a o') := fun b x k h => by
  rw [upd_ne (fun z => n (by rw [z, e] at h; cases Option.some.inj h; exact k))]
  exact h
theorem not_pk_refs (es : List Addr) : ¬ PK (.lst (es.map V.ref)) := by
  rintro (⟨xs, h⟩ | ⟨z, ws, h⟩)
  · cases h
  · injection h with h'
    cases es with
    | nil => cases h'
    | cons e r => injection h' with h1 _; cases h1
theorem PlanOf.mono {H H' : Hp} {k : Str} {e : Addr} (h : PlanOf H k e) (s : KeepsPK H H') : PlanOf H' k e := by
  unfold PlanOf at h ⊢
  split
  · rename_i c
    rw [if_pos c] at h
    obtain ⟨u, v, e⟩ := h
    exact ⟨u, v, s _ _ (.inl ⟨_, rfl⟩) e⟩
  · rename_i c
    rw [if_neg c] at h
    obtain ⟨g, wl, b, ws, e, h1, h2, e2, l1, r⟩ := h
    refine ⟨g, wl, b, ws, s _ _ (.inl ⟨_, rfl⟩) e, h1, h2, s _ _ (.inr ?_) e2, l1, r⟩
    cases ws with
    | nil => simp at l1
    | cons z ws => exact ⟨z, ws.map V.str, rfl⟩
/-- a pot is no such thing -/
theorem pot_kind {H H' : Hp} {p : Addr} (hp : Pot H p) (b : But p H H') : KeepsPK H H' := by
  intro a o ho e
  refine b a o (fun z => ?_) e
  obtain ⟨x, y, _, _, _, ep⟩ := hp
  rw [z, ep] at e
  cases Option.some.inj e
  rcases ho with ⟨xs, h⟩ | ⟨z, ws, h⟩
  · cases h
  · injection h with h'
    injection h' with h1 _
    cases h1
theorem PlanAt.but {H H' : Hp} {es : List Addr} {rows : List (Str × Str)} {p : Addr} (h : PlanAt H es rows) (hp : Pot H p) (b : But p H H') : PlanAt H' es rows :=
  ⟨h.1, fun j e z => let ⟨r, e1, e2⟩ := h.2 j e z; ⟨r, e1, e2.mono (pot_kind hp b)⟩⟩
theorem PlanAt.same {H H' : Hp} {es : List Addr} {rows : List (Str × Str)} (h : PlanAt H es rows) (b : Same H H') : PlanAt H' es rows :=
  ⟨h.1, fun j e z => let ⟨r, e1, e2⟩ := h.2 j e z; ⟨r, e1, e2.mono (Same.pk b)⟩⟩
theorem RowsAt.pot {H H' : Hp} {ts : List Addr} {rows : List (Str × Str)} {p : Addr} (h : RowsAt H ts rows) (hp : Pot H p) (b : But p H H') : RowsAt H' ts rows :=
  ⟨h.1, fun j t e => let ⟨r, e1, e2⟩ := h.2 j t e; ⟨r, e1, pot_kind hp b _ _ (.inl ⟨_, rfl⟩) e2⟩⟩
section
variable {K : PySem.W.Frag} {mg : Str → Option Value} {P : Program} {base : Heap} {w : World}
def spStep : Sp := fun vs H Q _ => ∃ (p : Addr) (n : Int), vs = [.ref p, .int n] ∧ Pot H p ∧ ∀ H' i, But p H H' → Pot H' p → Q (.int i) H'
theorem ok_step {f fD : Addr} {fd fdD : FuncData} {k : Nat} (F : Fun K "_law_step" "_law_step" sStep f fd) (DD : DefAt K mg "_law_draw" sDraw ["_law_pot_here", "_law_many"] fD fdD) (T : Tx mg) :
    FnOk P w K mg base CX0 (k + 2) f fd ["_law_pot_here", "_law_far"] spStep := by
  have GD : FnOk P w K mg base CX0 (k + 1) fD fdD ["_law_pot_here", "_law_many"] spDraw := ok_draw DD.F T
  refine F.ok scStep (fun vs H Q E h => ?_) (fun cdv A outer s H vs Q E hr h => ?_)
  · obtain ⟨p, n, rfl, _⟩ := h
    rfl
  · obtain ⟨p, n, rfl, hp, q⟩ := h
    refine ⟨_, pss_cons (ps_set (i := 2) scStep.nd rfl (.inl rfl) (pe_ix ix_list (pe_lst (pa_cons pe_int (pa_cons pe_int (pa_cons pe_int (pa_cons pe_int (pa_cons pe_int (pa_cons pe_int pa_nil)))))))
          (pe_call GD hr (by rfl) DD.g DD.F.kp DD.b .nil pass0 (pa_cons (pv 0) (pa_cons pe_int pa_nil))) (fun _ _ => rfl)))
      (pss_one (ps_ret (pe_ifExp (PW.pt (pw_or (pt_cmpR op_eq (pv 1) pe_int (nomark _)) (pw_or1 (pt_cmpR op_eq (pe_call GD hr (by rfl) DD.g DD.F.kp DD.b .nil pass0 (pa_cons (pv 0) (pa_cons pe_int pa_nil))) pe_int (nomark _)))))
        (pv 2) (pe_op op_add (pe_op op_mul (pv 2) (pe_op op_pow pe_int pe_int)) (pe_call GD hr (by rfl) DD.g DD.F.kp DD.b .nil pass0 (pa_cons (pv 0) (pa_cons (pe_op op_pow pe_int pe_int) pa_nil))))))), ?_⟩
    refine ⟨(by show 6 ≤ sizeLine; decide), fun l nl => ⟨.ref p, rfl, p, 6, rfl, hp.new nl, by decide, by decide, fun H1 d b1 hp1 d0 d1 => ?_⟩⟩
    obtain ⟨v, vi, va⟩ := at_in (xs := [V.int 0, V.int 1, V.int 2, V.int 3, V.int 4, V.int 6]) d0 d1
    obtain ⟨m, rfl, m0, m1⟩ : ∃ m : Int, v = .int m ∧ 0 ≤ m ∧ m ≤ 6 := by
      simp only [List.mem_cons, List.not_mem_nil, or_false] at vi
      rcases vi with rfl | rfl | rfl | rfl | rfl | rfl <;> exact ⟨_, rfl, by decide, by decide⟩
    have b01 : But p H H1 := (But.new But.refl nl).trans b1
    refine ⟨l, _, d, .int m, rfl, rfl, .inl (.inl (b1 _ _ (hp.ne nl) upd_same)), va, .int n, rfl, rfl, _, rfl, ?_⟩
    refine ite2 (fun _ => ?_) (fun _ => ?_)
    · exact iteT ⟨.int m, rfl, q _ _ b01 hp1⟩
    · refine ⟨.ref p, rfl, p, 2, rfl, hp1, by decide, by decide, fun H2 e b2 hp2 e0 e1 => ⟨rfl, _, rfl, ?_⟩⟩
      refine ite2 (fun _ => ?_) (fun _ => ?_)
      · exact ⟨.int m, rfl, q _ _ (b01.trans b2) hp2⟩
      · refine ⟨.int m, rfl, 10, 25, rfl, rfl, ⟨by decide, by decide, by decide⟩, _, _, rfl, rfl, .inl ⟨by omega, by omega⟩, .ref p, rfl, 10, 9, rfl, rfl, ⟨by decide, by decide, by decide⟩, p, 10 ^ 9, rfl, hp2, by decide, by decide, fun H3 g b3 hp3 _ _ => ?_⟩
        exact ⟨_, _, rfl, rfl, q _ _ ((b01.trans b2).trans b3) hp3⟩

def spPlan (K : PySem.W.Frag) : Sp := fun vs H Q _ => ∃ (p l : Addr) (ts : List Addr) (rows : List (Str × Str)) (n : Int), vs = [.ref p, .ref l, .int n] ∧ Pot H p ∧ l ≠ p ∧ SqL K H l (ts.map V.ref) ∧ RowsAt H ts rows ∧ rows.length ≤ 25 ∧
  ∀ (H' : Hp) (pl : Addr) (es : List Addr), But p H H' → Pot H' p → H pl = none → pl ≠ p → H' pl = some (.lst (es.map V.ref)) → PlanAt H' es rows → Q (.ref pl) H'
theorem ok_plan {f fD fW fS fT : Addr} {fd fdD fdW fdS fdT : FuncData} {k : Nat} (F : Fun K "_law_plan" "_law_plan" sPlan f fd) (DD : DefAt K mg "_law_draw" sDraw ["_law_pot_here", "_law_many"] fD fdD)
    (DW : DefAt K mg "_law_word" sWord ["_law_pot_here", "_law_taken"] fW fdW) (DS : DefAt K mg "_law_words" sWords ["_law_pot_here", "_law_many"] fS fdS) (DT : DefAt K mg "_law_step" sStep ["_law_pot_here", "_law_far"] fT fdT) (T : Tx mg) :
    FnOk P w K mg base CX0 (k + 4) f fd ["_law_pot_here", "_law_fields_here", "_law_far"] (spPlan K) := by
  have GD : FnOk P w K mg base CX0 (k + 3) fD fdD ["_law_pot_here", "_law_many"] spDraw := ok_draw DD.F T
  have GS : FnOk P w K mg base CX0 (k + 3) fS fdS ["_law_pot_here", "_law_many"] spWords := ok_words DS.F DD DW T
  have GT : FnOk P w K mg base CX0 (k + 3) fT fdT ["_law_pot_here", "_law_far"] spStep := ok_step DT.F DD T
  refine F.ok scPlan (fun vs H Q E h => ?_) (fun cdv A outer s H vs Q E hr h => ?_)
  · obtain ⟨p, l, ts, rows, n, rfl, _⟩ := h
    rfl
  · obtain ⟨p, l, ts, rows, n, rfl, hp, lp, hl, hrw, h25, q⟩ := h
    refine ⟨_, pss_cons (ps_par (i := 3) (j := 4) (by rfl) scPlan.nd rfl rfl (by decide) rfl rfl
        (pa_cons (pe_lst (pa_cons (pe_op op_add pe_int (pe_call GD hr (by rfl) DD.g DD.F.kp DD.b .nil pass0 (pa_cons (pv 0) (pa_cons pe_int pa_nil)))) (pa_cons (pe_op op_add pe_int (pe_call GD hr (by rfl) DD.g DD.F.kp DD.b .nil pass0 (pa_cons (pv 0) (pa_cons pe_int pa_nil)))) (pa_cons pe_int pa_nil))))
          (pa_cons (pe_lst pa_nil) pa_nil)) (by rfl))
      (pss_cons (ps_for PassesOwn.never rfl (pi_list (pv 1)) (pg_tup rfl (pgs_cons (pg_name (i := 5) scPlan.nd rfl (.inl rfl)) (pgs_cons (pg_name (i := 6) scPlan.nd rfl (.inl rfl)) pgs_nil)))
        (pss_one (ps_if (pt_cmpR op_eq (pv 6) pe_str (nomark _))
          (pss_one (ps_expr (pe_bm PySem.F.plainAttrs_list PySem.F.slot_list_append PySem.F.type_list_append mt_append (pv 4)
            (pa_cons (pe_tup (pa_cons (pe_op op_sub (pe_call GD hr (by rfl) DD.g DD.F.kp DD.b .nil pass0 (pa_cons (pv 0) (pa_cons pe_int pa_nil))) pe_int) (pa_cons (pe_call GT hr (by rfl) DT.g DT.F.kp DT.b .nil pass0 (pa_cons (pv 0) (pa_cons (pv 2) pa_nil))) pa_nil))) pa_nil))))
          (pss_cons (ps_set (i := 7) scPlan.nd rfl (.inl rfl) (pe_call GD hr (by rfl) DD.g DD.F.kp DD.b .nil pass0 (pa_cons (pv 0) (pa_cons pe_int pa_nil))))
          (pss_cons (ps_set (i := 8) scPlan.nd rfl (.inl rfl) (pe_ifExp (pt_cmpR op_gt (pe_call GD hr (by rfl) DD.g DD.F.kp DD.b .nil pass0 (pa_cons (pv 0) (pa_cons pe_int pa_nil))) pe_int (nomark _))
              (pe_ix ix_list (pv 3) (pv 7) (fun _ _ => rfl)) (pe_op op_add pe_int (pe_call GD hr (by rfl) DD.g DD.F.kp DD.b .nil pass0 (pa_cons (pv 0) (pa_cons pe_int pa_nil))))))
          (pss_one (ps_expr (pe_bm PySem.F.plainAttrs_list PySem.F.slot_list_append PySem.F.type_list_append mt_append (pv 4)
            (pa_cons (pe_tup (pa_cons (pv 7) (pa_cons (pe_call GS hr (by rfl) DS.g DS.F.kp DS.b .nil pass0 (pa_cons (pv 0) (pa_cons (pv 8) pa_nil)))
              (pa_cons (pe_cmpR op_eq (pe_call GD hr (by rfl) DD.g DD.F.kp DD.b .nil pass0 (pa_cons (pv 0) (pa_cons pe_int pa_nil))) pe_int (nomark _)) pa_nil)))) pa_nil)))))))))
      (pss_one (ps_ret (pv 4)))), ?_⟩
    refine ⟨.ref p, rfl, p, 4, rfl, hp, by decide, by decide, fun H1 d1 b1 hp1 d10 d11 => ⟨_, _, rfl, rfl, .ref p, rfl, p, 2, rfl, hp1, by decide, by decide, fun H2 d2 b2 hp2 d20 d21 => ⟨_, _, rfl, rfl, ?_⟩⟩⟩
    refine ⟨(by show 3 ≤ sizeLine; decide), fun sz nsz => ⟨Nat.zero_le _, fun fo nfo => ⟨_, _, rfl, ?_⟩⟩⟩
    have b02 : But p H H2 := b1.trans b2
    have szp := hp2.ne nsz
    have hp2' := hp2.new (o := .lst [.int (1 + d1), .int (2 + d2), .int 2]) nsz
    have fop := hp2'.ne nfo
    have szfo : sz ≠ fo := fun e => by
      rw [← e, upd_same] at nfo
      cases nfo
    have b03 : But p H (upd (upd H2 sz (.lst [.int (1 + d1), .int (2 + d2), .int 2])) fo (.lst [])) := (b02.new nsz).new nfo
    have nfoH : H fo = none := (b02.new nsz).none nfo fop
    have hp3 : Pot (upd (upd H2 sz (.lst [.int (1 + d1), .int (2 + d2), .int 2])) fo (.lst [])) p := hp2'.new nfo
    have esz : (upd (upd H2 sz (.lst [.int (1 + d1), .int (2 + d2), .int 2])) fo (.lst [])) sz = some (.lst [.int (1 + d1), .int (2 + d2), .int 2]) := by rw [upd_ne szfo, upd_same]
    have efo : (upd (upd H2 sz (.lst [.int (1 + d1), .int (2 + d2), .int 2])) fo (.lst [])) fo = some (.lst []) := upd_same
    generalize upd (upd H2 sz (.lst [.int (1 + d1), .int (2 + d2), .int 2])) fo (.lst []) = H3 at *
    have hlH : ∀ {Hx : Hp}, But p H Hx → SqL K Hx l (ts.map V.ref) := fun b => Kc.SqL.but hl lp b
    refine ⟨.ref l, rfl, l, rfl, ⟨_, hlH b03⟩, ?_⟩
    refine for_it (walk_list (K := K) (a := l) (xs := ts.map V.ref)) (fun i σ Hx => ∃ y5 y6 y7 y8, σ = [some (.ref p), some (.ref l), some (.int n), some (.ref sz), some (.ref fo), y5, y6, y7, y8] ∧ But p H Hx ∧ Pot Hx p ∧
        Hx sz = some (.lst [.int (1 + d1), .int (2 + d2), .int 2]) ∧ ∃ es : List Addr, Hx fo = some (.lst (es.map V.ref)) ∧ es.length = i ∧ ∀ (j : Nat) (e : Addr), es[j]? = some e → ∃ r, rows[j]? = some r ∧ PlanOf Hx r.2 e)
      ⟨none, none, none, none, rfl, b03, hp3, esz, [], efo, rfl, fun j e h => by simp at h⟩ (fun i σ Hx _ pv => ?_) (fun i x σ Hx Hx' hi pv y => ?_) (fun σ Hx pv => ?_)
    · obtain ⟨_, _, _, _, _, b, _⟩ := pv
      exact hlH b
    · obtain ⟨y5, y6, y7, y8, rfl, bx, hpx, szx, es, fox, el, ep⟩ := pv
      obtain ⟨rfl, hx⟩ := y
      rw [List.getElem?_map] at hx
      obtain ⟨t, ht, rfl⟩ := Option.map_eq_some_iff.mp hx
      obtain ⟨r, er, etr⟩ := (hrw.pot hp bx).2 i t ht
      have hi25 : i < 25 := by
        have := (List.getElem?_eq_some_iff.mp er).1
        omega
      -- how a new entry is added
      have add : ∀ (Hy : Hp) (e : Addr), But p Hx' Hy → Pot Hy p → Hy e = none → ∀ xs : List V, PlanOf (upd (upd Hy e (.tup xs)) fo (.lst (es.map V.ref ++ [.ref e]))) r.2 e →
          But p H (upd (upd Hy e (.tup xs)) fo (.lst (es.map V.ref ++ [.ref e]))) ∧ Pot (upd (upd Hy e (.tup xs)) fo (.lst (es.map V.ref ++ [.ref e]))) p ∧ (upd (upd Hy e (.tup xs)) fo (.lst (es.map V.ref ++ [.ref e]))) sz = some (.lst [.int (1 + d1), .int (2 + d2), .int 2]) ∧
          ∃ es' : List Addr, (upd (upd Hy e (.tup xs)) fo (.lst (es.map V.ref ++ [.ref e]))) fo = some (.lst (es'.map V.ref)) ∧ es'.length = i + 1 ∧ ∀ (j : Nat) (e' : Addr), es'[j]? = some e' → ∃ r, rows[j]? = some r ∧ PlanOf (upd (upd Hy e (.tup xs)) fo (.lst (es.map V.ref ++ [.ref e]))) r.2 e' := by
        intro Hy e by_ hpy ne xs pl
        have foy := by_ _ _ fop fox
        have szy := by_ _ _ szp szx
        have sme : Same Hy (upd Hy e (.tup xs)) := same_new ne
        have kp : KeepsPK Hx' (upd (upd Hy e (.tup xs)) fo (.lst (es.map V.ref ++ [.ref e]))) := ((pot_kind hpx by_).trans (Same.pk sme)).trans (pk_put (sme _ _ foy) (not_pk_refs es))
        refine ⟨fun b o nb h => ?_, ?_, ?_, es ++ [e], ?_, ?_, fun j e' h => ?_⟩
        · rw [upd_ne (ne_of_none h nfoH)]
          exact sme _ _ ((bx.trans by_) b o nb h)
        · obtain ⟨x, y, h1, h2, h3, z⟩ := hpy
          exact ⟨x, y, h1, h2, h3, by rw [upd_ne fop.symm]; exact sme _ _ z⟩
        · rw [upd_ne szfo]
          exact sme _ _ szy
        · rw [upd_same, List.map_append]
          rfl
        · rw [List.length_append, el]
          rfl
        · rcases Nat.lt_trichotomy j es.length with h1 | h1 | h1
          · rw [List.getElem?_append_left h1] at h
            obtain ⟨r', g1, g2⟩ := ep j e' h
            exact ⟨r', g1, g2.mono kp⟩
          · subst h1
            have : e = e' := by simpa using h
            subst this
            exact ⟨r, by rw [el]; exact er, pl⟩
          · rw [List.getElem?_eq_none (by rw [List.length_append, List.length_singleton]; omega)] at h
            cases h
      refine ⟨t, [.str r.1, .str r.2], rfl, .inl (.inl etr), rfl, .str r.1, [.str r.2], rfl, .str r.2, [], rfl, rfl, .str r.2, rfl, rfl, _, rfl, ?_⟩
      refine ite2 (fun c => ?_) (fun c => ?_)
      · have hc : isC r.2 = true := decide_eq_true (V.str.inj (of_decide_eq_true c))
        refine ⟨.ref fo, rfl, .inl ⟨rfl, _, SqL.of fox⟩, .ref p, rfl, p, 41, rfl, hpx, by decide, by decide, fun Ha u ba hpa u0 u1 => ⟨_, _, rfl, rfl, .ref p, rfl, .int n, rfl, p, n, rfl, hpa, fun Hb v bb hpb => ?_⟩⟩
        refine ⟨(by show 2 ≤ sizeLine; decide), fun e ne => ?_⟩
        have foe : fo ≠ e := ne_of_none ((ba.trans bb) _ _ fop fox) ne
        refine ⟨fo, _, _, rfl, rfl, by rw [upd_ne foe]; exact (ba.trans bb) _ _ fop fox, by rw [List.length_map, el]; exact small1000 (by omega), ?_⟩
        refine ⟨_, _, _, _, rfl, add Hb e (ba.trans bb) hpb ne _ ?_⟩
        unfold PlanOf
        rw [if_pos hc]
        exact ⟨_, _, by rw [upd_ne foe.symm, upd_same]⟩
      · have hc : ¬ isC r.2 = true := fun h => c (decide_eq_true (congrArg V.str (of_decide_eq_true h)))
        refine ⟨.ref p, rfl, p, 3, rfl, hpx, by decide, by decide, fun Ha g ba hpa g0 g1 => ?_⟩
        refine ⟨.ref p, rfl, p, 5, rfl, hpa, by decide, by decide, fun Hb g2 bb hpb g20 g21 => ⟨g2, 0, rfl, rfl, _, rfl, ?_⟩⟩
        refine ite2 (fun _ => ?_) (fun _ => ?_)
        · obtain ⟨v, vi, va⟩ := at_in (xs := [V.int (1 + d1), V.int (2 + d2), V.int 2]) g0 g1
          obtain ⟨sv, rfl, s1, s8⟩ : ∃ m : Int, v = .int m ∧ 1 ≤ m ∧ m ≤ 8 := by
            simp only [List.mem_cons, List.not_mem_nil, or_false] at vi
            rcases vi with rfl | rfl | rfl <;> exact ⟨_, rfl, by omega, by omega⟩
          have bcx : But p Hx' Hb := ba.trans bb
          have hpc := hpb
          refine ⟨.ref sz, rfl, .int g, rfl, sz, _, g, .int sv, rfl, rfl, .inl (.inl (bcx _ _ szp szx)), va, ?_⟩
          -- found.append((group, words, loose))
          obtain ⟨sm, rfl⟩ := Int.eq_ofNat_of_zero_le (show 0 ≤ sv by omega)
          refine ⟨.ref fo, rfl, .inl ⟨rfl, _, SqL.of (bcx _ _ fop fox)⟩, .int g, rfl, .ref p, rfl, .int sm, rfl, p, sm, rfl, hpc, by omega, fun Hd wl ws bd hpd nwl wlp ewl wlen ww wn => ?_⟩
          refine ⟨.ref p, rfl, p, 6, rfl, hpd, by decide, by decide, fun He o be hpe o0 o1 => ⟨rfl, ?_⟩⟩
          have bxe : But p Hx' He := (bcx.trans bd).trans be
          refine ⟨(by show 3 ≤ sizeLine; decide), fun e ne => ?_⟩
          have foe : fo ≠ e := ne_of_none (bxe _ _ fop fox) ne
          have wle : wl ≠ e := ne_of_none (be _ _ wlp ewl) ne
          have wlfo : wl ≠ fo := fun z => by
            rw [z, bcx _ _ fop fox] at nwl
            cases nwl
          refine ⟨fo, _, _, rfl, rfl, by rw [upd_ne foe]; exact bxe _ _ fop fox, by rw [List.length_map, el]; exact small1000 (by omega), ?_⟩
          refine ⟨_, _, _, _, rfl, add He e bxe hpe ne _ ?_⟩
          unfold PlanOf
          rw [if_neg hc]
          exact ⟨g, wl, _, ws, by rw [upd_ne foe.symm, upd_same], g0, g1, by rw [upd_ne wlfo, upd_ne wle]; exact be _ _ wlp ewl, by omega, by omega, ww⟩
        · refine ⟨.ref p, rfl, p, 8, rfl, hpb, by decide, by decide, fun Hc g3 bc hpc g30 g31 => ⟨_, _, rfl, rfl, ?_⟩⟩
          obtain ⟨sv, es1⟩ : ∃ sv : Int, sv = 1 + g3 := ⟨_, rfl⟩
          have bcx : But p Hx' Hc := (ba.trans bb).trans bc
          rw [show (fun i j : Int => V.int (i + j)) 1 g3 = V.int sv by rw [es1]]
          -- found.append((group, words, loose))
          obtain ⟨sm, rfl⟩ := Int.eq_ofNat_of_zero_le (show 0 ≤ sv by omega)
          refine ⟨.ref fo, rfl, .inl ⟨rfl, _, SqL.of (bcx _ _ fop fox)⟩, .int g, rfl, .ref p, rfl, .int sm, rfl, p, sm, rfl, hpc, by omega, fun Hd wl ws bd hpd nwl wlp ewl wlen ww wn => ?_⟩
          refine ⟨.ref p, rfl, p, 6, rfl, hpd, by decide, by decide, fun He o be hpe o0 o1 => ⟨rfl, ?_⟩⟩
          have bxe : But p Hx' He := (bcx.trans bd).trans be
          refine ⟨(by show 3 ≤ sizeLine; decide), fun e ne => ?_⟩
          have foe : fo ≠ e := ne_of_none (bxe _ _ fop fox) ne
          have wle : wl ≠ e := ne_of_none (be _ _ wlp ewl) ne
          have wlfo : wl ≠ fo := fun z => by
            rw [z, bcx _ _ fop fox] at nwl
            cases nwl
          refine ⟨fo, _, _, rfl, rfl, by rw [upd_ne foe]; exact bxe _ _ fop fox, by rw [List.length_map, el]; exact small1000 (by omega), ?_⟩
          refine ⟨_, _, _, _, rfl, add He e bxe hpe ne _ ?_⟩
          unfold PlanOf
          rw [if_neg hc]
          exact ⟨g, wl, _, ws, by rw [upd_ne foe.symm, upd_same], g0, g1, by rw [upd_ne wlfo, upd_ne wle]; exact be _ _ wlp ewl, by omega, by omega, ww⟩
    · obtain ⟨y5, y6, y7, y8, rfl, bx, hpx, szx, es, fox, el, ep⟩ := pv
      rw [List.length_map] at el
      exact ⟨.ref fo, rfl, q Hx fo es bx hpx nfoH fop fox ⟨by rw [el, hrw.1], ep⟩⟩
end
end K14
set_option Elab.async false
set_option linter.all false
set_option maxRecDepth 100000
namespace K14
open PySem PySem.Spec PyProof.Rows L2 Kx Kz Kc TL
/-- values that a version of the fields has -/
def VerOk (rows : List (Str × Str)) (xs : List V) : Prop := xs.length = rows.length ∧ ∀ (j : Nat) (r : Str × Str) (x : V), rows[j]? = some r → xs[j]? = some x → valB r.2 x = true
section
variable {K : PySem.W.Frag} {mg : Str → Option Value} {P : Program} {base : Heap} {w : World}
def spRow (K : PySem.W.Frag) : Sp := fun vs H Q _ => ∃ (p l pl : Addr) (ts es : List Addr) (rows : List (Str × Str)), vs = [.ref p, .ref l, .ref pl] ∧ Pot H p ∧ l ≠ p ∧ SqL K H l (ts.map V.ref) ∧ RowsAt H ts rows ∧
  pl ≠ p ∧ SqL K H pl (es.map V.ref) ∧ PlanAt H es rows ∧ rows.length ≤ 25 ∧
  ∀ (H' : Hp) (v : Addr) (xs : List V), But p H H' → Pot H' p → H v = none → H' v = some (.tup xs) → VerOk rows xs → Q (.ref v) H'
theorem ok_row {f fD : Addr} {fd fdD : FuncData} {k : Nat} (F : Fun K "_law_row" "_law_row" sRow f fd) (DD : DefAt K mg "_law_draw" sDraw ["_law_pot_here", "_law_many"] fD fdD) (T : Tx mg) :
    FnOk P w K mg base CX0 (k + 2) f fd ["_law_pot_here", "_law_fields_here", "_law_plan_here"] (spRow K) := by
  have GD : FnOk P w K mg base CX0 (k + 1) fD fdD ["_law_pot_here", "_law_many"] spDraw := ok_draw DD.F T
  refine F.ok scRow (fun vs H Q E h => ?_) (fun cdv A outer s H vs Q E hr h => ?_)
  · obtain ⟨p, l, pl, ts, es, rows, rfl, _⟩ := h
    rfl
  · obtain ⟨p, l, pl, ts, es, rows, rfl, hp, lp, hl, hrw, plp, hpl, hpn, h25, q⟩ := h
    refine ⟨_, pss_cons (ps_par (i := 3) (j := 4) (by rfl) scRow.nd rfl rfl (by decide) rfl rfl
        (pa_cons (pe_lst (pa_cons (pe_call GD hr (by rfl) DD.g DD.F.kp DD.b .nil pass0 (pa_cons (pv 0) (pa_cons pe_int pa_nil))) (pa_cons (pe_call GD hr (by rfl) DD.g DD.F.kp DD.b .nil pass0 (pa_cons (pv 0) (pa_cons pe_int pa_nil)))
          (pa_cons (pe_call GD hr (by rfl) DD.g DD.F.kp DD.b .nil pass0 (pa_cons (pv 0) (pa_cons pe_int pa_nil))) pa_nil)))) (pa_cons (pe_lst pa_nil) pa_nil)) (by rfl))
      (pss_cons (ps_for PassesOwn.never rfl (pi_enum (by rfl) T.enum (pa_cons (pv 1) pa_nil)) (pg_tup rfl (pgs_cons (pg_name (i := 5) scRow.nd rfl (.inl rfl)) (pgs_cons (pg_name (i := 6) scRow.nd rfl (.inl rfl)) pgs_nil)))
        (pss_one (ps_if (pt_cmpR op_eq (pe_ix ix_tup (pv 6) pe_int (fun _ _ => rfl)) pe_str (nomark _))
          (pss_one (ps_expr (pe_bm PySem.F.plainAttrs_list PySem.F.slot_list_append PySem.F.type_list_append mt_append (pv 4)
            (pa_cons (pe_op op_add (pe_ix ix_tup (pe_ix ix_list (pv 2) (pv 5) (fun _ _ => rfl)) pe_int (fun _ _ => rfl)) (pe_op op_mul (pe_ix ix_tup (pe_ix ix_list (pv 2) (pv 5) (fun _ _ => rfl)) pe_int (fun _ _ => rfl))
              (pe_op op_sub (pe_call GD hr (by rfl) DD.g DD.F.kp DD.b .nil pass0 (pa_cons (pv 0) (pa_cons pe_int pa_nil))) pe_int))) pa_nil))))
          (pss_cons (ps_asg (pe_ix ix_list (pv 2) (pv 5) (fun _ _ => rfl)) (pg_tup rfl (pgs_cons (pg_name (i := 7) scRow.nd rfl (.inl rfl)) (pgs_cons (pg_name (i := 8) scRow.nd rfl (.inl rfl)) (pgs_cons (pg_name (i := 9) scRow.nd rfl (.inl rfl)) pgs_nil)))))
          (pss_cons (ps_set (i := 10) scRow.nd rfl (.inl rfl) (pe_ifExp (pt_val (pv 9)) (pe_call GD hr (by rfl) DD.g DD.F.kp DD.b .nil pass0 (pa_cons (pv 0) (pa_cons (pe_callB call_len_seq (by rfl) T.len PySem.boot_len (pa_cons (pv 8) pa_nil)) pa_nil)))
              (pe_ix ix_list (pv 3) (pv 7) (fun _ _ => rfl))))
          (pss_one (ps_expr (pe_bm PySem.F.plainAttrs_list PySem.F.slot_list_append PySem.F.type_list_append mt_append (pv 4)
            (pa_cons (pe_ix ix_list (pv 8) (pe_op op_mod (pv 10) (pe_callB call_len_seq (by rfl) T.len PySem.boot_len (pa_cons (pv 8) pa_nil))) (fun _ _ => rfl)) pa_nil)))))))))
      (pss_one (ps_ret (pe_callTy call_tuple_of (by rfl) T.tup (by decide +kernel) (pa_cons (pv 4) pa_nil))))), ?_⟩
    refine ⟨.ref p, rfl, p, 4, rfl, hp, by decide, by decide, fun H1 d1 b1 hp1 d10 d11 => ⟨.ref p, rfl, p, 4, rfl, hp1, by decide, by decide, fun H2 d2 b2 hp2 d20 d21 => ⟨.ref p, rfl, p, 4, rfl, hp2, by decide, by decide, fun H3 d3 b3 hp3 d30 d31 => ?_⟩⟩⟩
    refine ⟨(by show 3 ≤ sizeLine; decide), fun sz nsz => ⟨Nat.zero_le _, fun fo nfo => ⟨_, _, rfl, ?_⟩⟩⟩
    have b02 : But p H H3 := (b1.trans b2).trans b3
    have szp := hp3.ne nsz
    have hp2' := hp3.new (o := .lst [.int d1, .int d2, .int d3]) nsz
    have fop := hp2'.ne nfo
    have szfo : sz ≠ fo := fun e => by
      rw [← e, upd_same] at nfo
      cases nfo
    have b03 : But p H (upd (upd H3 sz (.lst [.int d1, .int d2, .int d3])) fo (.lst [])) := (b02.new nsz).new nfo
    have nfoH : H fo = none := (b02.new nsz).none nfo fop
    have hp4 : Pot (upd (upd H3 sz (.lst [.int d1, .int d2, .int d3])) fo (.lst [])) p := hp2'.new nfo
    have esz : (upd (upd H3 sz (.lst [.int d1, .int d2, .int d3])) fo (.lst [])) sz = some (.lst [.int d1, .int d2, .int d3]) := by rw [upd_ne szfo, upd_same]
    have efo : (upd (upd H3 sz (.lst [.int d1, .int d2, .int d3])) fo (.lst [])) fo = some (.lst []) := upd_same
    generalize upd (upd H3 sz (.lst [.int d1, .int d2, .int d3])) fo (.lst []) = H4 at *
    have hlH : ∀ {Hx : Hp}, But p H Hx → SqL K Hx l (ts.map V.ref) := fun b => Kc.SqL.but hl lp b
    refine ⟨.ref l, rfl, l, _, rfl, hlH b03, ?_⟩
    have kx : ∀ {Hx : Hp}, But p H Hx → KeepsPK H Hx := fun b => pot_kind hp b
    refine for_it (walk_enum (K := K) (a := l) (xs := ts.map V.ref)) (fun i σ Hx => ∃ y5 y6 y7 y8 y9 y10, σ = [some (.ref p), some (.ref l), some (.ref pl), some (.ref sz), some (.ref fo), y5, y6, y7, y8, y9, y10] ∧ But p H Hx ∧ Pot Hx p ∧
        Hx sz = some (.lst [.int d1, .int d2, .int d3]) ∧ ∃ xs : List V, Hx fo = some (.lst xs) ∧ xs.length = i ∧ ∀ (j : Nat) (r : Str × Str) (x : V), rows[j]? = some r → xs[j]? = some x → valB r.2 x = true)
      ⟨none, none, none, none, none, none, rfl, b03, hp4, esz, [], efo, rfl, fun j r x _ h => by simp at h⟩ (fun i σ Hx _ pv => ?_) (fun i x σ Hx Hx' hi pv y => ?_) (fun σ Hx pv => ?_)
    · obtain ⟨_, _, _, _, _, _, _, b, _⟩ := pv
      exact hlH b
    · obtain ⟨y5, y6, y7, y8, y9, y10, rfl, bx, hpx, szx, xs, fox, xl, xv⟩ := pv
      obtain ⟨T1, x1, x2, rfl, nT, rfl, f1, f2⟩ := y
      cases Option.some.inj f1
      have f2 : (ts.map V.ref)[i]? = some x2 := f2
      rw [List.getElem?_map] at f2
      obtain ⟨t, ht, rfl⟩ := Option.map_eq_some_iff.mp f2
      obtain ⟨r, er, etr⟩ := (hrw.pot hp bx).2 i t ht
      have hi25 : i < 25 := by
        have := (List.getElem?_eq_some_iff.mp er).1
        omega
      have sT : Same Hx (upd Hx T1 (.tup [.int (i : Nat), .ref t])) := same_new nT
      have etr' := sT _ _ etr
      have aT : (upd Hx T1 (.tup [.int (i : Nat), .ref t])) T1 = some (.tup [.int (i : Nat), .ref t]) := upd_same
      have hpy := hpx.same sT
      have by_ : But p H (upd Hx T1 (.tup [.int (i : Nat), .ref t])) := bx.trans (Same.but sT)
      have foy := sT _ _ fox
      have szy := sT _ _ szx
      have T1p : T1 ≠ p := hpx.ne nT
      generalize upd Hx T1 (.tup [.int (i : Nat), .ref t]) = Hy at *
      obtain ⟨e, he⟩ : ∃ e, es[i]? = some e := by
        have h1 := (List.getElem?_eq_some_iff.mp er).1
        have h2 : i < es.length := by rw [hpn.1]; exact h1
        exact ⟨_, List.getElem?_eq_getElem h2⟩
      obtain ⟨r', er', ple⟩ := hpn.2 i e he
      cases Option.some.inj (er.symm.trans er')
      have ply := ple.mono (kx by_)
      have hply : SqL K Hy pl (es.map V.ref) := Kc.SqL.but hpl plp by_
      have atE : atI (es.map V.ref) (i : Nat) = some (.ref e) := atI_nat (by rw [List.getElem?_map, he]; rfl)
      -- how a value is added
      have add : ∀ (Hz : Hp) (v : V), But p Hy Hz → Pot Hz p → valB r.2 v = true →
          But p H (upd Hz fo (.lst (xs ++ [v]))) ∧ Pot (upd Hz fo (.lst (xs ++ [v]))) p ∧ (upd Hz fo (.lst (xs ++ [v]))) sz = some (.lst [.int d1, .int d2, .int d3]) ∧
          ∃ xs' : List V, (upd Hz fo (.lst (xs ++ [v]))) fo = some (.lst xs') ∧ xs'.length = i + 1 ∧ ∀ (j : Nat) (r : Str × Str) (x : V), rows[j]? = some r → xs'[j]? = some x → valB r.2 x = true := by
        intro Hz v bz hpz vb
        refine ⟨fun b o nb h => ?_, ?_, ?_, xs ++ [v], upd_same, ?_, fun j r1 x h1 h2 => ?_⟩
        · rw [upd_ne (ne_of_none h nfoH)]
          exact (by_.trans bz) b o nb h
        · obtain ⟨x, y, h1, h2, h3, z⟩ := hpz
          exact ⟨x, y, h1, h2, h3, by rw [upd_ne fop.symm]; exact z⟩
        · rw [upd_ne szfo]
          exact bz _ _ szp szy
        · rw [List.length_append, xl]
          rfl
        · rcases Nat.lt_trichotomy j xs.length with g | g | g
          · rw [List.getElem?_append_left g] at h2
            exact xv j r1 x h1 h2
          · subst g
            have : v = x := by simpa using h2
            rw [xl, er] at h1
            cases Option.some.inj h1
            rw [← this]
            exact vb
          · rw [List.getElem?_eq_none (by rw [List.length_append, List.length_singleton]; omega)] at h2
            cases h2
      refine ⟨T1, _, rfl, .inl (.inl aT), rfl, .int (i : Nat), [.ref t], rfl, .ref t, [], rfl, rfl, ?_⟩
      refine ⟨.ref t, rfl, t, _, 1, .str r.2, rfl, rfl, .inl (.inl etr'), atI_nat (j := 1) rfl, rfl, _, rfl, ?_⟩
      refine ite2 (fun c => ?_) (fun c => ?_)
      · have hc : isC r.2 = true := decide_eq_true (V.str.inj (of_decide_eq_true c))
        unfold PlanOf at ply
        rw [if_pos hc] at ply
        obtain ⟨u, v, eu⟩ := ply
        refine ⟨.ref fo, rfl, .inl ⟨rfl, _, SqL.of foy⟩, .ref pl, rfl, .int (i : Nat), rfl, pl, _, _, .ref e, rfl, rfl, hply, atE, e, _, 0, .int u, rfl, rfl, .inl (.inl eu), atI_nat (j := 0) rfl,
          .ref pl, rfl, .int (i : Nat), rfl, pl, _, _, .ref e, rfl, rfl, hply, atE, e, _, 1, .int v, rfl, rfl, .inl (.inl eu), atI_nat (j := 1) rfl,
          .ref p, rfl, p, 7, rfl, hpy, by decide, by decide, fun Hz d bz hpz d0 d1' => ⟨_, _, rfl, rfl, _, _, rfl, rfl, .inr ⟨by omega, by omega⟩, _, _, rfl, rfl, fo, _, _, rfl, rfl, bz _ _ fop foy, by rw [xl]; exact small1000 (by omega), ?_⟩⟩
        refine ⟨_, _, _, _, _, _, rfl, add Hz _ bz hpz ?_⟩
        unfold valB
        rw [if_pos hc]
        rfl
      · have hc : ¬ isC r.2 = true := fun h => c (decide_eq_true (congrArg V.str (of_decide_eq_true h)))
        unfold PlanOf at ply
        rw [if_neg hc] at ply
        obtain ⟨g, wl, b, ws, eg, g0, g1, ewl, l1, l8, ww⟩ := ply
        have wsl : (ws.map V.str).length = ws.length := List.length_map ..
        refine ⟨.ref pl, rfl, .int (i : Nat), rfl, pl, _, _, .ref e, rfl, rfl, hply, atE, e, _, rfl, .inl (.inl eg), rfl, .int g, _, rfl, .ref wl, _, rfl, .bl b, [], rfl, rfl, .bl b, rfl, b, rfl, ?_⟩
        cases b with
        | true =>
          refine iteT ⟨.ref p, rfl, .ref wl, rfl, wl, _, rfl, .inl (.inl (.inl ewl)), p, _, rfl, hpy, by omega, by omega, fun Hz ix bz hpz ix0 ix1 => ?_⟩
          have KZ : KeepsPK Hy Hz := pot_kind hpy bz
          have foz := bz _ _ fop foy
          obtain ⟨u, ui, ua⟩ := at_in (xs := ws.map V.str) (i := ix % ((ws.map V.str).length : Int)) (Int.emod_nonneg _ (by omega)) (Int.emod_lt_of_pos _ (by omega))
          obtain ⟨z, zi, rfl⟩ := List.mem_map.mp ui
          have wlz := KZ _ _ (.inr (by cases ws with | nil => simp at l1 | cons a r => exact ⟨a, r.map V.str, rfl⟩)) ewl
          refine ⟨.ref fo, rfl, .inl ⟨rfl, _, SqL.of foz⟩, .ref wl, rfl, .int ix, rfl, .ref wl, rfl, wl, _, rfl, .inl (.inl (.inl wlz)), _, _, rfl, rfl, (by show (0 : Int) < ((ws.map V.str).length : Int); omega), wl, _, _, .str z, rfl, rfl, .inl (.inl wlz), ua, fo, _, _, rfl, rfl, foz, by rw [xl]; exact small1000 (by omega), ?_⟩
          refine ⟨_, _, _, _, _, _, rfl, add Hz _ bz hpz ?_⟩
          unfold valB
          rw [if_neg hc]
          exact ww z zi
        | false =>
          obtain ⟨v, vi, va⟩ := at_in (xs := [V.int d1, V.int d2, V.int d3]) g0 g1
          obtain ⟨ix, rfl⟩ : ∃ m : Int, v = .int m := by
            simp only [List.mem_cons, List.not_mem_nil, or_false] at vi
            rcases vi with rfl | rfl | rfl <;> exact ⟨_, rfl⟩
          obtain ⟨Hz, eHz⟩ : ∃ Hz, Hz = Hy := ⟨_, rfl⟩
          have bz : But p Hy Hz := by rw [eHz]; exact But.refl
          have hpz : Pot Hz p := by rw [eHz]; exact hpy
          have KZ : KeepsPK Hy Hz := pot_kind hpy bz
          have foz := bz _ _ fop foy
          rw [← eHz]
          refine iteF ⟨.ref sz, rfl, .int g, rfl, sz, _, g, .int ix, rfl, rfl, .inl (.inl (bz _ _ szp szy)), va, ?_⟩
          obtain ⟨u, ui, ua⟩ := at_in (xs := ws.map V.str) (i := ix % ((ws.map V.str).length : Int)) (Int.emod_nonneg _ (by omega)) (Int.emod_lt_of_pos _ (by omega))
          obtain ⟨z, zi, rfl⟩ := List.mem_map.mp ui
          have wlz := KZ _ _ (.inr (by cases ws with | nil => simp at l1 | cons a r => exact ⟨a, r.map V.str, rfl⟩)) ewl
          refine ⟨.ref fo, rfl, .inl ⟨rfl, _, SqL.of foz⟩, .ref wl, rfl, .int ix, rfl, .ref wl, rfl, wl, _, rfl, .inl (.inl (.inl wlz)), _, _, rfl, rfl, (by show (0 : Int) < ((ws.map V.str).length : Int); omega), wl, _, _, .str z, rfl, rfl, .inl (.inl wlz), ua, fo, _, _, rfl, rfl, foz, by rw [xl]; exact small1000 (by omega), ?_⟩
          refine ⟨_, _, _, _, _, _, rfl, add Hz _ bz hpz ?_⟩
          unfold valB
          rw [if_neg hc]
          exact ww z zi
    · obtain ⟨y5, y6, y7, y8, y9, y10, rfl, bx, hpx, szx, xs, fox, xl, xv⟩ := pv
      rw [List.length_map] at xl
      refine ⟨.ref fo, rfl, fo, xs, rfl, .inl ⟨.inl (.inl fox), fun v nv => ?_⟩⟩
      exact q _ v xs (bx.new nv) (hpx.new nv) (bx.none nv (hpx.ne nv)) upd_same ⟨by rw [xl, hrw.1], xv⟩
end
end K14
set_option Elab.async false
set_option linter.all false
set_option maxRecDepth 100000
namespace K14
open PySem PySem.Spec PyProof.Rows L2 Kx Kz Kc TL
section
variable {K : PySem.W.Frag} {mg : Str → Option Value} {P : Program} {base : Heap} {w : World}
/-- the versions at vs -/
def VersAt (H0 H : Hp) (vs : List Addr) (rows : List (Str × Str)) : Prop := ∀ v ∈ vs, H0 v = none ∧ ∃ xs, H v = some (.tup xs) ∧ VerOk rows xs
theorem VersAt.pk {H0 H H' : Hp} {vs : List Addr} {rows : List (Str × Str)} (h : VersAt H0 H vs rows) (k : KeepsPK H H') : VersAt H0 H' vs rows :=
  fun v hv => let ⟨n, xs, e, o⟩ := h v hv; ⟨n, xs, k _ _ (.inl ⟨_, rfl⟩) e, o⟩
def spRows (K : PySem.W.Frag) : Sp := fun vs H Q _ => ∃ (p l : Addr) (ts : List Addr) (rows : List (Str × Str)) (m n : Int), vs = [.ref p, .ref l, .int m, .int n] ∧ Pot H p ∧ l ≠ p ∧ SqL K H l (ts.map V.ref) ∧ RowsAt H ts rows ∧ rows.length ≤ 25 ∧ 1 ≤ m ∧ m ≤ 500 ∧
  ∀ (H' : Hp) (vl : Addr) (vs : List Addr), But p H H' → Pot H' p → H vl = none → vl ≠ p → H' vl = some (.lst (vs.map V.ref)) → vs ≠ [] → VersAt H H' vs rows → Q (.ref vl) H'
theorem ok_rows {f fD fW fS fT fP fR : Addr} {fd fdD fdW fdS fdT fdP fdR : FuncData} {k : Nat} (F : Fun K "_law_rows" "_law_rows" sRows f fd) (DD : DefAt K mg "_law_draw" sDraw ["_law_pot_here", "_law_many"] fD fdD)
    (DW : DefAt K mg "_law_word" sWord ["_law_pot_here", "_law_taken"] fW fdW) (DS : DefAt K mg "_law_words" sWords ["_law_pot_here", "_law_many"] fS fdS) (DT : DefAt K mg "_law_step" sStep ["_law_pot_here", "_law_far"] fT fdT)
    (DP : DefAt K mg "_law_plan" sPlan ["_law_pot_here", "_law_fields_here", "_law_far"] fP fdP) (DR : DefAt K mg "_law_row" sRow ["_law_pot_here", "_law_fields_here", "_law_plan_here"] fR fdR) (T : Tx mg) :
    FnOk P w K mg base CX0 (k + 5) f fd ["_law_pot_here", "_law_fields_here", "_law_most", "_law_far"] (spRows K) := by
  have GD : FnOk P w K mg base CX0 (k + 4) fD fdD ["_law_pot_here", "_law_many"] spDraw := ok_draw DD.F T
  have GP : FnOk P w K mg base CX0 (k + 4) fP fdP ["_law_pot_here", "_law_fields_here", "_law_far"] (spPlan K) := ok_plan DP.F DD DW DS DT T
  have GR : FnOk P w K mg base CX0 (k + 4) fR fdR ["_law_pot_here", "_law_fields_here", "_law_plan_here"] (spRow K) := ok_row DR.F DD T
  refine F.ok scRows (fun vs H Q E h => ?_) (fun cdv A outer s H vs Q E hr h => ?_)
  · obtain ⟨p, l, ts, rows, m, n, rfl, _⟩ := h
    rfl
  · obtain ⟨p, l, ts, rows, m, n, rfl, hp, lp, hl, hrw, h25, m1, m5, q⟩ := h
    refine ⟨_, pss_cons (ps_set (i := 4) scRows.nd rfl (.inr rfl) (pe_call GP hr (by rfl) DP.g DP.F.kp DP.b .nil pass0 (pa_cons (pv 0) (pa_cons (pv 1) (pa_cons (pv 3) pa_nil)))))
      (pss_cons (ps_setLc (i := 5) (own := [("_law_k", 6)]) (g := gName 6) (tt := tYes) rfl scRows.nd rfl rfl (sw_true rfl rfl rfl (by decide +kernel))
          (pi_range1 (by rfl) T.rng (pa_cons (pe_op op_add pe_int (pe_call GD hr (by rfl) DD.g DD.F.kp DD.b .nil pass0 (pa_cons (pv 0) (pa_cons (pv 2) pa_nil)))) pa_nil))
          (blkOk_by (N := ["_law_pot_here", "_law_fields_here", "_law_most", "_law_far", "_law_plan_here", "_law_found", "_law_k"]) (sc := defScope sRows) (by decide +kernel))
          (fun _ _ _ _ _ => pg_name (i := 6) scRows.nd rfl (Or.inl rfl)) (fun _ _ _ _ _ => pts_nil)
          (fun _ _ _ _ _ => pe_call GR hr (by rfl) DR.g DR.F.kp DR.b .nil pass0 (pa_cons (pv 0) (pa_cons (pv 1) (pa_cons (pv 4) pa_nil)))))
      (pss_cons (ps_if (pt_cmpR op_eq (pe_call GD hr (by rfl) DD.g DD.F.kp DD.b .nil pass0 (pa_cons (pv 0) (pa_cons pe_int pa_nil))) pe_int (nomark _))
        (pss_one (ps_expr (pe_bm PySem.F.plainAttrs_list PySem.F.slot_list_append PySem.F.type_list_append mt_append (pv 5)
          (pa_cons (pe_ix ix_list (pv 5) (pe_call GD hr (by rfl) DD.g DD.F.kp DD.b .nil pass0 (pa_cons (pv 0) (pa_cons (pe_callB call_len_seq (by rfl) T.len PySem.boot_len (pa_cons (pv 5) pa_nil)) pa_nil))) (fun _ _ => rfl)) pa_nil)))) pss_nil)
      (pss_one (ps_ret (pv 5))))), ?_⟩
    refine ⟨.ref p, rfl, .ref l, rfl, .int n, rfl, p, l, ts, rows, n, rfl, hp, lp, hl, hrw, h25, fun H1 pl es b1 hp1 npl plp epl hpn => ?_⟩
    refine ⟨.ref p, rfl, .int m, rfl, p, m, rfl, hp1, by omega, by omega, fun H2 d b2 hp2 d0 d1 => ⟨_, _, rfl, rfl, 1 + d, rfl, by omega, by omega, fun D nD => ?_⟩⟩
    have b02 : But p H H2 := b1.trans b2
    have Dp := hp2.ne nD
    have nDH : H D = none := b02.none nD Dp
    have epl2 := b2 _ _ plp epl
    have plD : pl ≠ D := ne_of_none epl2 nD
    have pln2 := hpn.but hp1 b2
    refine lc_range (lo := 0) (n := (1 + d).toNat) (fun i Hx => But p H Hx ∧ Pot Hx p ∧ Hx pl = some (.lst (es.map V.ref)) ∧ PlanAt Hx es rows ∧ ∃ vs : List Addr, Hx D = some (.lst (vs.map V.ref)) ∧ vs.length = i ∧ VersAt H Hx vs rows)
      ⟨b02.new nD, hp2.new nD, by rw [upd_ne plD]; exact epl2, pln2.same (same_new nD), [], upd_same, rfl, fun _ h => nomatch h⟩ (fun i Hx hi pv => ?_) (fun Hx pv => ?_)
    · obtain ⟨bx, hpx, eplx, plnx, vs, eD, vl, va⟩ := pv
      refine ⟨rfl, ?_⟩
      refine kept_yes ?_
      refine ⟨.ref p, rfl, .ref l, rfl, .ref pl, rfl, p, l, pl, ts, es, rows, rfl, hpx, lp, Kc.SqL.but hl lp bx, hrw.pot hp bx, plp, .inl (.inl eplx), plnx, h25, fun Hy v xs by_ hpy nv ev vo => ?_⟩
      have eDy := by_ _ _ Dp eD
      have vp : v ≠ p := hpx.ne nv
      have kxy : KeepsPK Hx Hy := pot_kind hpx by_
      have kyz : KeepsPK Hy (upd Hy D (.lst (vs.map V.ref ++ [.ref v]))) := pk_put eDy (not_pk_refs vs)
      refine ⟨_, eDy, by rw [List.length_map, vl]; exact small1000 (by omega), fun b o nb h => ?_, ?_, by rw [upd_ne plD]; exact by_ _ _ plp eplx, ⟨plnx.1, fun j e he => ?_⟩, vs ++ [v], ?_, ?_, fun u hu => ?_⟩
      · rw [upd_ne (ne_of_none h nDH)]
        exact (bx.trans by_) b o nb h
      · obtain ⟨x, y, h1, h2, h3, z⟩ := hpy
        exact ⟨x, y, h1, h2, h3, by rw [upd_ne Dp.symm]; exact z⟩
      · obtain ⟨r, g1, g2⟩ := plnx.2 j e he
        exact ⟨r, g1, g2.mono (kxy.trans kyz)⟩
      · rw [upd_same, List.map_append]
        rfl
      · rw [List.length_append, vl]
        rfl
      · rcases List.mem_append.mp hu with h | h
        · exact (va.pk (kxy.trans kyz)) u h
        · rw [List.mem_singleton.mp h]
          exact ⟨bx.none nv vp, xs, kyz _ _ (.inl ⟨_, rfl⟩) ev, vo⟩
    · obtain ⟨bx, hpx, eplx, plnx, vs, eD, vl, va⟩ := pv
      have vne : vs ≠ [] := fun e => by
        rw [e] at vl
        simp at vl
        omega
      have vlen : (vs.map V.ref).length = vs.length := List.length_map ..
      have vpos : 0 < vs.length := List.length_pos_iff.mpr vne
      refine ⟨.ref p, rfl, p, 5, rfl, hpx, by decide, by decide, fun Hy o by_ hpy o0 o1 => ⟨rfl, _, rfl, ?_⟩⟩
      have eDy := by_ _ _ Dp eD
      have vay := va.pk (pot_kind hpx by_)
      refine ite2 (fun _ => ?_) (fun _ => ?_)
      · refine ⟨.ref D, rfl, .inl ⟨rfl, _, SqL.of eDy⟩, .ref D, rfl, .ref p, rfl, .ref D, rfl, D, _, rfl, .inl (.inl (.inl eDy)), p, _, rfl, hpy, by omega, by omega, fun Hz g bz hpz g0 g1 => ?_⟩
        have eDz := bz _ _ Dp eDy
        obtain ⟨u, ui, ua⟩ := at_in (xs := vs.map V.ref) g0 g1
        obtain ⟨v, vi, rfl⟩ := List.mem_map.mp ui
        refine ⟨D, _, g, .ref v, rfl, rfl, .inl (.inl eDz), ua, D, _, _, rfl, rfl, eDz, by rw [List.length_map, vl]; exact small1000 (by omega), .ref D, rfl, ?_⟩
        have kz : KeepsPK Hy (upd Hz D (.lst (vs.map V.ref ++ [.ref v]))) := (pot_kind hpy bz).trans (pk_put eDz (not_pk_refs vs))
        refine q _ D (vs ++ [v]) (fun b o nb h => ?_) ?_ nDH Dp ?_ (by simp) fun u hu => ?_
        · rw [upd_ne (ne_of_none h nDH)]
          exact ((bx.trans by_).trans bz) b o nb h
        · obtain ⟨x, y, h1, h2, h3, z⟩ := hpz
          exact ⟨x, y, h1, h2, h3, by rw [upd_ne Dp.symm]; exact z⟩
        · rw [upd_same, List.map_append]
          rfl
        · rcases List.mem_append.mp hu with h | h
          · exact (vay.pk kz) u h
          · rw [List.mem_singleton.mp h]
            exact (vay.pk kz) v vi
      · exact ⟨.ref D, rfl, q _ D vs (bx.trans by_) hpy nDH Dp eDy vne vay⟩
end
end K14
set_option Elab.async false
set_option linter.all false
set_option maxRecDepth 100000
namespace K14
open PySem PySem.Spec PyProof.Rows L2 Kx Kz Kc TL ClX
def isBl : V → Bool
  | .bl _ => true
  | _ => false
theorem Thing.kits {K : PySem.W.Frag} {H : Hp} {v : V} (t : Thing K H v) : ∃ u, TyX K H v u ∧ PySem.W.kitOne K u (.type "int") = some (isInt v || isBl v) ∧ PySem.W.kitOne K u (.type "bool") = some (isBl v) := by
  cases t with
  | str z h => exact ⟨_, .base (.str z), kit_ty (show kitB "str" "int" = some false by decide +kernel), kit_ty (show kitB "str" "bool" = some false by decide +kernel)⟩
  | non => exact ⟨_, .base .non, kit_ty (show kitB "NoneType" "int" = some false by decide +kernel), kit_ty (show kitB "NoneType" "bool" = some false by decide +kernel)⟩
  | bl b => exact ⟨_, .base (.bl b), kit_ty (show kitB "bool" "int" = some true by decide +kernel), kit_ty (show kitB "bool" "bool" = some true by decide +kernel)⟩
  | int i => exact ⟨_, .base (.int i), kit_ty (show kitB "int" "int" = some true by decide +kernel), kit_ty (show kitB "int" "bool" = some false by decide +kernel)⟩
  | lst h => exact ⟨_, .base (.lst h), kit_ty (show kitB "list" "int" = some false by decide +kernel), kit_ty (show kitB "list" "bool" = some false by decide +kernel)⟩
  | tup h => exact ⟨_, .base (.tup h), kit_ty (show kitB "tuple" "int" = some false by decide +kernel), kit_ty (show kitB "tuple" "bool" = some false by decide +kernel)⟩
  | dct h => exact ⟨_, .base (.dK h), kit_ty (show kitB "dict" "int" = some false by decide +kernel), kit_ty (show kitB "dict" "bool" = some false by decide +kernel)⟩
/-- a tuple of things, or no tuple -/
theorem Thing.tupOr {K : PySem.W.Frag} {H : Hp} {v : V} (t : Thing K H v) : (∃ a xs, v = .ref a ∧ H a = some (.tup xs)) ∨
    (∀ a xs, v = .ref a → H a ≠ some (.tup xs)) ∧ ∃ u, TyX K H v u ∧ PySem.W.kitOne K u (.type "tuple") = some false := by
  cases t with
  | str z h => exact .inr ⟨nofun, _, .base (.str z), kit_ty (show kitB "str" "tuple" = some false by decide +kernel)⟩
  | non => exact .inr ⟨nofun, _, .base .non, kit_ty (show kitB "NoneType" "tuple" = some false by decide +kernel)⟩
  | bl b => exact .inr ⟨nofun, _, .base (.bl b), kit_ty (show kitB "bool" "tuple" = some false by decide +kernel)⟩
  | int i => exact .inr ⟨nofun, _, .base (.int i), kit_ty (show kitB "int" "tuple" = some false by decide +kernel)⟩
  | lst h => exact .inr ⟨(fun a xs e z => by cases e; rw [h] at z; cases z), _, .base (.lst h), kit_ty (show kitB "list" "tuple" = some false by decide +kernel)⟩
  | tup h => exact .inl ⟨_, _, rfl, h⟩
  | dct h => exact .inr ⟨(fun a xs e z => by cases e; rw [h] at z; cases z), _, .base (.dK h), kit_ty (show kitB "dict" "tuple" = some false by decide +kernel)⟩
/-- the class -/
structure Sx (K : PySem.W.Frag) (mg : Str → Option Value) (C : Addr) : Prop where
  cl : Cls K C
  nR : NoAttr K C "rows"
  mgC : mg "Schema" = some (.ref C)
  cv : ∃ mc u1 u2, CRead K C mc ∧ CVal K C mc "MOST_LABELS" (.int 12) u1 ∧ CVal K C mc "MOST_COUNTERS" (.int 4) u2
  kn : ∃ kt, mg "KINDS" = some (.ref kt) ∧ ∀ H, SqT K H kt [.str "mine", .str "theirs", .str "counter"]
section
variable {K : PySem.W.Frag} {mg : Str → Option Value} {P : Program} {base : Heap} {w : World}
def spWhole (K : PySem.W.Frag) : Sp := fun vs H Q _ => ∃ v, vs = [v] ∧ Thing K H v ∧ Q (.bl (isInt v)) H
theorem int_not (v : V) : ((isInt v || isBl v) && !isBl v) = isInt v := by cases v <;> rfl
theorem ok_whole {f : Addr} {fd : FuncData} {k : Nat} (F : Fun K "is_whole_number" "is_whole_number" sWhole f fd) (T : Tx mg) : FnOk P w K mg base CX0 (k + 1) f fd ["thing"] (spWhole K) := by
  refine F.ok scWhole (fun vs H Q E h => ?_) (fun cdv A outer s H vs Q E hr h => ?_)
  · obtain ⟨v, rfl, _⟩ := h
    rfl
  · obtain ⟨v, rfl, tv, q⟩ := h
    refine ⟨_, pss_one (ps_ret (pe_and (pe_callB call_isi (by rfl) T.isi (by decide +kernel) (pa_cons (pv 0) (pa_cons (pe_bltn (v := .ty "int") (by rfl) T.int (by decide +kernel) rfl) pa_nil)))
      (pe_one (pe_not (pe_callB call_isi (by rfl) T.isi (by decide +kernel) (pa_cons (pv 0) (pa_cons (pe_bltn (v := .ty "bool") (by rfl) T.bool (by decide +kernel) rfl) pa_nil))))))), ?_⟩
    obtain ⟨u, ty, k1, k2⟩ := Thing.kits tv
    have e := int_not v
    refine ⟨v, rfl, v, .ty "int", u, .type "int", _, rfl, .ty "int", ty, k1, _, rfl, ?_⟩
    cases c : (isInt v || isBl v) with
    | true =>
      rw [c, Bool.true_and] at e
      refine iteT ⟨v, rfl, v, .ty "bool", u, .type "bool", _, rfl, .ty "bool", ty, k2, _, rfl, ?_⟩
      rw [e]
      exact q
    | false =>
      rw [c, Bool.false_and] at e
      refine iteF ?_
      rw [e]
      exact q
theorem ok_isint {f : Addr} {fd : FuncData} {k : Nat} (F : Fun K "_law_is_int" "_law_is_int" sIsInt f fd) (T : Tx mg) : FnOk P w K mg base CX0 (k + 1) f fd ["_law_item"] (spWhole K) := by
  refine F.ok scIsInt (fun vs H Q E h => ?_) (fun cdv A outer s H vs Q E hr h => ?_)
  · obtain ⟨v, rfl, _⟩ := h
    rfl
  · obtain ⟨v, rfl, tv, q⟩ := h
    refine ⟨_, pss_one (ps_ret (pe_and (pe_callB call_isi (by rfl) T.isi (by decide +kernel) (pa_cons (pv 0) (pa_cons (pe_bltn (v := .ty "int") (by rfl) T.int (by decide +kernel) rfl) pa_nil)))
      (pe_one (pe_not (pe_callB call_isi (by rfl) T.isi (by decide +kernel) (pa_cons (pv 0) (pa_cons (pe_bltn (v := .ty "bool") (by rfl) T.bool (by decide +kernel) rfl) pa_nil))))))), ?_⟩
    obtain ⟨u, ty, k1, k2⟩ := Thing.kits tv
    have e := int_not v
    refine ⟨v, rfl, v, .ty "int", u, .type "int", _, rfl, .ty "int", ty, k1, _, rfl, ?_⟩
    cases c : (isInt v || isBl v) with
    | true =>
      rw [c, Bool.true_and] at e
      refine iteT ⟨v, rfl, v, .ty "bool", u, .type "bool", _, rfl, .ty "bool", ty, k2, _, rfl, ?_⟩
      rw [e]
      exact q
    | false =>
      rw [c, Bool.false_and] at e
      refine iteF ?_
      rw [e]
      exact q
def kindOk (k : Str) : Prop := k = "mine" ∨ k = "theirs" ∨ k = "counter"
def spField : Sp := fun vs H Q _ => ∃ (t : Addr) (r : Str × Str), vs = [.ref t] ∧ H t = some (.tup [.str r.1, .str r.2]) ∧ wordB (.str r.1) = true ∧ kindOk r.2 ∧ ∀ H', Same H H' → Q (.bl true) H'
theorem word_len {z : Str} (h : wordB (.str z) = true) : z.length ≤ sizeLine := by
  simp only [wordB, Bool.and_eq_true, decide_eq_true_eq] at h
  exact Nat.le_of_lt (small1000 (by omega))
theorem ok_field {f fN C : Addr} {fd fdN : FuncData} {k : Nat} (F : Fun K "is_field" "is_field" sField f fd) (DN : DefAt K mg "is_name" sName ["thing"] fN fdN) (S : Sx K mg C) (T : Tx mg) : FnOk P w K mg base CX0 (k + 2) f fd ["thing"] spField := by
  have GN : FnOk P w K mg base CX0 (k + 1) fN fdN ["thing"] (spName K) := ok_name DN.F T
  obtain ⟨kt, mk, sk⟩ := S.kn
  refine F.ok scField (fun vs H Q E h => ?_) (fun cdv A outer s H vs Q E hr h => ?_)
  · obtain ⟨t, r, rfl, _⟩ := h
    rfl
  · obtain ⟨t, r, rfl, ht, hw, hk, q⟩ := h
    refine ⟨_, pss_cons (ps_if (PW.pt (pw_or (pt_not (pt_val (pe_callB call_isi (by rfl) T.isi (by decide +kernel) (pa_cons (pv 0) (pa_cons (pe_bltn (v := .ty "tuple") (by rfl) T.tup (by decide +kernel) rfl) pa_nil)))))
          (pw_or1 (pt_cmpR op_ne (pe_callB call_len_seq (by rfl) T.len PySem.boot_len (pa_cons (pv 0) pa_nil)) pe_int (nomark _))))) (pss_one (ps_ret pe_bl)) pss_nil)
      (pss_cons (ps_asg (pv 0) (pg_tup rfl (pgs_cons (pg_name (i := 1) scField.nd rfl (.inl rfl)) (pgs_cons (pg_name (i := 2) scField.nd rfl (.inl rfl)) pgs_nil))))
      (pss_one (ps_ret (pe_and (pe_call GN hr (by rfl) DN.g DN.F.kp DN.b .nil pass0 (pa_cons (pv 1) pa_nil))
        (pe_and (pe_callB call_isi (by rfl) T.isi (by decide +kernel) (pa_cons (pv 2) (pa_cons (pe_bltn (v := .ty "str") (by rfl) T.str (by decide +kernel) rfl) pa_nil)))
          (pe_one (pe_cmpR op_in_seq (pv 2) (pe_glob (v := .ref kt) (by rfl) mk rfl) rfl))))))), ?_⟩
    refine ⟨.ref t, rfl, .ref t, .ty "tuple", _, .type "tuple", true, rfl, .ty "tuple", .base (.tup ht), kit_ty (by decide +kernel), true, rfl, iteF ?_⟩
    refine ⟨.ref t, rfl, t, _, rfl, .inr (.inl (.inl ht)), rfl, _, rfl, ?_⟩
    rw [show decide (V.int (([V.str r.1, V.str r.2] : List V).length : Int) = V.int 2) = true from decide_eq_true rfl]
    refine iteF ⟨.ref t, rfl, t, _, rfl, .inl (.inl ht), rfl, .str r.1, _, rfl, .str r.2, [], rfl, rfl, ?_⟩
    refine ⟨.str r.1, rfl, .str r.1, rfl, .str _ (word_len hw), fun H1 s1 => ⟨_, rfl, ?_⟩⟩
    rw [hw]
    refine iteT ⟨.str r.2, rfl, .str r.2, .ty "str", _, .type "str", true, rfl, .ty "str", .base (.str _), kit_ty (by decide +kernel), true, rfl, ?_⟩
    refine iteT ⟨.str r.2, rfl, kt, _, rfl, .inr (sk H1), rfl, rfl, ?_⟩
    have : inV (.str r.2) [.str "mine", .str "theirs", .str "counter"] = true := by
      rcases hk with e | e | e <;> rw [e] <;> decide +kernel
    rw [this]
    exact q H1 s1
end
end K14
set_option Elab.async false
set_option linter.all false
set_option maxRecDepth 100000
namespace K14
open PySem PySem.Spec PyProof.Rows L2 Kx Kz Kc TL ClX
/-- an earlier field may be followed by r -/
def Fits (prev : List (Str × Str)) (r : Str × Str) : Prop :=
  r.1 ∉ prev.map (·.1) ∧ (isC r.2 = true → (prev.filter fun x => isC x.2).length < 4) ∧ (isC r.2 = false → (prev.filter fun x => !isC x.2).length < 12)
theorem dec_str (x y : Str) : decide (V.str x = V.str y) = decide (x = y) := by
  by_cases h : x = y
  · rw [h, decide_eq_true rfl, decide_eq_true rfl]
  · rw [decide_eq_false h, decide_eq_false fun e => h (V.str.inj e)]
theorem dec_bl (x y : Bool) : decide (V.bl x = V.bl y) = (x == y) := by cases x <;> cases y <;> rfl
section
variable {K : PySem.W.Frag} {mg : Str → Option Value} {P : Program} {base : Heap} {w : World}
def spProb : Sp := fun vs H Q _ => ∃ (t e : Addr) (es : List Addr) (r : Str × Str) (prev : List (Str × Str)), vs = [.ref t, .ref e] ∧ H t = some (.tup [.str r.1, .str r.2]) ∧ wordB (.str r.1) = true ∧ kindOk r.2 ∧
  H e = some (.lst (es.map V.ref)) ∧ RowsAt H es prev ∧ prev.length ≤ 25 ∧ Fits prev r ∧ ∀ H', Same H H' → Q .non H'
theorem ok_prob {f fN fF C : Addr} {fd fdN fdF : FuncData} {k : Nat} (F : Fun K "field_problem" "field_problem" sProb f fd) (DN : DefAt K mg "is_name" sName ["thing"] fN fdN) (DF : DefAt K mg "is_field" sField ["thing"] fF fdF) (S : Sx K mg C) (T : Tx mg) :
    FnOk P w K mg base CX0 (k + 3) f fd ["field", "earlier"] spProb := by
  have GF : FnOk P w K mg base CX0 (k + 2) fF fdF ["thing"] spField := ok_field DF.F DN S T
  obtain ⟨mc, u1, u2, rd, vL, vC⟩ := S.cv
  obtain ⟨tc, hc⟩ := T.cnt
  refine F.ok scProb (fun vs H Q E h => ?_) (fun cdv A outer s H vs Q E hr h => ?_)
  · obtain ⟨t, e, es, r, prev, rfl, _⟩ := h
    rfl
  · obtain ⟨t, e, es, r, prev, rfl, ht, hw, hk, he, hes, h25, ⟨f1, f2, f3⟩, q⟩ := h
    refine ⟨_, pss_cons (ps_if (pt_not (pt_val (pe_call GF hr (by rfl) DF.g DF.F.kp DF.b .nil pass0 (pa_cons (pv 0) pa_nil)))) (pss_one (ps_ret pe_str)) pss_nil)
      (pss_cons (ps_asg (pv 0) (pg_tup rfl (pgs_cons (pg_name (i := 2) scProb.nd rfl (.inl rfl)) (pgs_cons (pg_name (i := 3) scProb.nd rfl (.inr rfl)) pgs_nil))))
      (pss_cons (ps_if (pt_cmpR op_in_seq (pv 2) (pe_lc (own := [("row", 6)]) (g := gName 6) (tt := tYes) (te := tOp (rIxT K) (tVar 6) (tC (.int 0))) rfl scProb.nd (pi_list (pv 1))
          (blkOk_by (N := ["field", "earlier", "name", "kind", "alike", "most", "row"]) (sc := defScope sProb) (by decide +kernel))
          (fun _ _ _ _ _ => pg_name (i := 6) scProb.nd rfl (Or.inl rfl)) (fun _ _ _ _ _ => pts_nil) (fun _ _ _ _ _ => pe_ix ix_tup (pv 6) pe_int (fun _ _ => rfl))) rfl) (pss_one (ps_ret pe_str)) pss_nil)
      (pss_cons (ps_setLc (i := 4) (own := [("row", 6)]) (g := gName 6) (tt := tTest (tOp rEq (tOp rEq (tOp (rIxT K) (tVar 6) (tC (.int 1))) (tC (.str "counter"))) (tOp rEq (tVar 3) (tC (.str "counter"))))) (te := tVar 6)
          rfl scProb.nd rfl rfl (sw_true rfl rfl rfl (by decide +kernel)) (pi_list (pv 1)) (blkOk_by (N := ["field", "earlier", "name", "kind", "alike", "most", "row"]) (sc := defScope sProb) (by decide +kernel))
          (fun _ _ _ _ _ => pg_name (i := 6) scProb.nd rfl (Or.inl rfl))
          (fun _ _ _ _ _ => pts_one (pt_cmpR op_eq (pe_cmpR op_eq (pe_ix ix_tup (pv 6) pe_int (fun _ _ => rfl)) (pe_glob (v := .str "counter") (by rfl) hc ⟨_, rfl⟩) (nomark _)) (pe_cmpR op_eq (pv 3) (pe_glob (v := .str "counter") (by rfl) hc ⟨_, rfl⟩) (nomark _)) (nomark _)))
          (fun _ _ _ _ _ => pv 6))
      (pss_cons (ps_set (i := 5) scProb.nd rfl (.inl rfl) (pe_ifExp (pt_cmpR op_eq (pv 3) (pe_glob (v := .str "counter") (by rfl) hc ⟨_, rfl⟩) (nomark _)) (pe_cval (pe_glob (v := .ref C) (by rfl) S.mgC rfl)) (pe_cval (pe_glob (v := .ref C) (by rfl) S.mgC rfl))))
      (pss_one (ps_ret (pe_ifExp (pt_cmpR op_eq (pe_callB call_len_seq (by rfl) T.len PySem.boot_len (pa_cons (pv 4) pa_nil)) (pv 5) (nomark _)) pe_str pe_non))))))), ?_⟩
    refine ⟨.ref t, rfl, t, r, rfl, ht, hw, hk, fun H1 s1 => ⟨true, rfl, iteF ?_⟩⟩
    have ht1 := s1 _ _ ht
    have he1 := s1 _ _ he
    refine ⟨.ref t, rfl, t, _, rfl, .inl (.inl ht1), rfl, .str r.1, _, rfl, .str r.2, [], rfl, rfl, ?_⟩
    refine ⟨.str r.1, rfl, .ref e, rfl, e, rfl, ⟨_, .inl (.inl he1)⟩, fun D nD => ?_⟩
    refine lc_list (K := K) (a := e) (xs := es.map V.ref) (fun i H2 => Same H1 H2 ∧ H2 D = some (.lst (((prev.map (·.1)).take i).map V.str))) ⟨same_new nD, upd_same⟩ (fun i H2 _ pv => .inl (.inl (pv.1 _ _ he1))) (fun i x H2 hx pv => ?_) (fun H2 pv => ?_)
    · obtain ⟨s2, eD⟩ := pv
      rw [List.getElem?_map] at hx
      obtain ⟨t2, ht2, rfl⟩ := Option.map_eq_some_iff.mp hx
      obtain ⟨r2, er2, et2⟩ := (hes.same (s1.trans s2)).2 i t2 ht2
      have li := (List.getElem?_eq_some_iff.mp er2).1
      refine ⟨rfl, ?_⟩
      refine kept_yes ?_
      refine ⟨.ref t2, rfl, t2, _, 0, .str r2.1, rfl, rfl, .inl (.inl et2), atI_nat (j := 0) rfl, _, eD, ?_, same_at nD s2, ?_⟩
      · rw [List.length_map, List.length_take, List.length_map]
        exact small1000 (by omega)
      · rw [upd_same, List.take_add_one, List.getElem?_map, er2, List.map_append]
        rfl
    obtain ⟨s2, eD⟩ := pv
    have el : (prev.map (·.1)).take (es.map V.ref).length = prev.map (·.1) := List.take_of_length_le (by rw [List.length_map, List.length_map, hes.1]; exact Nat.le_refl _)
    rw [el] at eD
    refine ⟨D, _, rfl, .inl (.inl (.inl eD)), rfl, flat_strs _, _, rfl, ?_⟩
    rw [inV_str, decide_eq_false f1]
    refine iteF ?_
    have s02 := s1.trans s2
    have he2 := s02 _ _ he
    refine ⟨.ref e, rfl, e, rfl, ⟨_, .inl (.inl he2)⟩, fun D2 nD2 => ?_⟩
    refine lc_list (K := K) (a := e) (xs := es.map V.ref) (fun i H3 => Same H2 H3 ∧ ∃ vs : List V, H3 D2 = some (.lst vs) ∧ vs.length = ((prev.take i).filter fun x => isC x.2 == isC r.2).length) ⟨same_new nD2, [], upd_same, rfl⟩ (fun i H3 _ pv => .inl (.inl (pv.1 _ _ he2))) (fun i x H3 hx pv => ?_) (fun H3 pv => ?_)
    · obtain ⟨s3, vs, eD2, vl⟩ := pv
      rw [List.getElem?_map] at hx
      obtain ⟨t2, ht2, rfl⟩ := Option.map_eq_some_iff.mp hx
      obtain ⟨r2, er2, et2⟩ := (hes.same (s02.trans s3)).2 i t2 ht2
      have li := (List.getElem?_eq_some_iff.mp er2).1
      have nx : ((prev.take (i + 1)).filter fun x => isC x.2 == isC r.2) = ((prev.take i).filter fun x => isC x.2 == isC r.2) ++ (if (isC r2.2 == isC r.2) = true then [r2] else []) := by
        rw [List.take_add_one, er2, List.filter_append]
        cases c : (isC r2.2 == isC r.2) <;> simp [c]
      have vsm : vs.length ≤ 25 := by
        rw [vl]
        have := List.length_filter_le (fun x : Str × Str => isC x.2 == isC r.2) (prev.take i)
        rw [List.length_take] at this
        omega
      refine ⟨rfl, .ref t2, rfl, t2, _, 1, .str r2.2, rfl, rfl, .inl (.inl et2), atI_nat (j := 1) rfl, rfl, .str r.2, rfl, rfl, rfl, _, rfl, ?_⟩
      rw [dec_str, dec_str, dec_bl]
      show (if (isC r2.2 == isC r.2) = true then _ else _)
      cases c : (isC r2.2 == isC r.2) with
      | true =>
        refine iteT ⟨.ref t2, rfl, vs, eD2, small1000 (by omega), same_at nD2 s3, vs ++ [.ref t2], upd_same, ?_⟩
        rw [nx, if_pos c, List.length_append, List.length_append, vl]
        rfl
      | false =>
        refine iteF ⟨s3, vs, eD2, ?_⟩
        rw [nx, c, vl]
        simp
    obtain ⟨s3, vs, eD2, vl⟩ := pv
    have ep : prev.take (es.map V.ref).length = prev := List.take_of_length_le (by rw [List.length_map, hes.1]; exact Nat.le_refl _)
    rw [ep] at vl
    have s03 := s02.trans s3
    refine ⟨.str r.2, rfl, rfl, _, rfl, ?_⟩
    rw [dec_str]
    show (if isC r.2 = true then _ else _)
    cases c : isC r.2 with
    | true =>
      have ne : ¬ ((vs.length : Int) = 4) := by
        have h1 := f2 c
        have : ((prev.filter fun x => isC x.2 == isC r.2)) = prev.filter fun x => isC x.2 := by
          rw [c]
          congr 1
          funext x
          cases isC x.2 <;> rfl
        rw [this] at vl
        omega
      refine iteT ⟨C, mc, _, _, rfl, rd, vC, .ref D2, rfl, D2, _, rfl, .inl (.inl (.inl eD2)), .int 4, rfl, rfl, _, rfl, ?_⟩
      rw [show decide (V.int (vs.length : Int) = V.int 4) = false from decide_eq_false fun e => ne (V.int.inj e)]
      exact iteF (q H3 s03)
    | false =>
      have ne : ¬ ((vs.length : Int) = 12) := by
        have h1 := f3 c
        have : ((prev.filter fun x => isC x.2 == isC r.2)) = prev.filter fun x => !isC x.2 := by
          rw [c]
          congr 1
          funext x
          cases isC x.2 <;> rfl
        rw [this] at vl
        omega
      refine iteF ⟨C, mc, _, _, rfl, rd, vL, .ref D2, rfl, D2, _, rfl, .inl (.inl (.inl eD2)), .int 12, rfl, rfl, _, rfl, ?_⟩
      rw [show decide (V.int (vs.length : Int) = V.int 12) = false from decide_eq_false fun e => ne (V.int.inj e)]
      exact iteF (q H3 s03)
end
end K14
set_option Elab.async false
set_option linter.all false
set_option maxRecDepth 100000
namespace K14
open PySem PySem.Spec PyProof.Rows L2 Kx Kz Kc TL ClX
theorem filter_take_lt {α : Type} (f : α → Bool) (l : List α) (i : Nat) (r : α) (h : l[i]? = some r) (c : f r = true) : ((l.take i).filter f).length < (l.filter f).length := by
  have e : l = l.take i ++ r :: l.drop (i + 1) := by
    have li := (List.getElem?_eq_some_iff.mp h)
    obtain ⟨hi, hr⟩ := li
    rw [← hr]
    simp
  have : (l.filter f).length = ((l.take i).filter f).length + ((r :: l.drop (i + 1)).filter f).length := by
    conv => lhs; rw [e]
    rw [List.filter_append, List.length_append]
  rw [this, List.filter_cons_of_pos c, List.length_cons]
  omega
theorem nodup_take {α : Type} (l : List α) (i : Nat) (r : α) (h : l[i]? = some r) (nd : l.Nodup) : r ∉ l.take i := by
  obtain ⟨hi, hr⟩ := List.getElem?_eq_some_iff.mp h
  have e : l = l.take i ++ r :: l.drop (i + 1) := by
    rw [← hr]
    simp
  rw [e] at nd
  intro hm
  exact (List.nodup_append.mp nd).2.2 r hm r List.mem_cons_self rfl
theorem fits_of {rows : List (Str × Str)} {a b i : Nat} {r : Str × Str} (ok : RowsOk rows a b) (ha : a ≤ 12) (hb : b ≤ 4) (h : rows[i]? = some r) : Fits (rows.take i) r := by
  refine ⟨?_, fun c => ?_, fun c => ?_⟩
  · rw [List.map_take]
    exact nodup_take _ i r.1 (by rw [List.getElem?_map, h]; rfl) ok.nd
  · have := filter_take_lt (fun x : Str × Str => isC x.2) rows i r h c
    rw [ok.cs] at this
    omega
  · have := filter_take_lt (fun x : Str × Str => !isC x.2) rows i r h (by rw [c]; rfl)
    rw [ok.ls] at this
    omega
theorem RowsAt.add {H H' : Hp} {es : List Addr} {rows : List (Str × Str)} {i : Nat} {e : Addr} {r : Str × Str} (h : RowsAt H es (rows.take i)) (k : KeepsPK H H') (er : rows[i]? = some r) (ee : H' e = some (.tup [.str r.1, .str r.2])) :
    RowsAt H' (es ++ [e]) (rows.take (i + 1)) := by
  have hi := (List.getElem?_eq_some_iff.mp er).1
  have el : es.length = i := by
    rw [h.1, List.length_take]
    omega
  have et : rows.take (i + 1) = rows.take i ++ [r] := by rw [List.take_add_one, er]; rfl
  refine ⟨by rw [et, List.length_append, List.length_append, h.1]; rfl, fun j t ht => ?_⟩
  rw [et]
  rcases Nat.lt_trichotomy j es.length with g | g | g
  · rw [List.getElem?_append_left g] at ht
    obtain ⟨r2, e1, e2⟩ := h.2 j t ht
    have lj := (List.getElem?_eq_some_iff.mp e1).1
    exact ⟨r2, by rw [List.getElem?_append_left lj]; exact e1, k _ _ (.inl ⟨_, rfl⟩) e2⟩
  · subst g
    have : e = t := by simpa using ht
    subst this
    refine ⟨r, ?_, ee⟩
    rw [h.1]
    simp
  · rw [List.getElem?_eq_none (by rw [List.length_append, List.length_singleton]; omega)] at ht
    cases ht
def SchemaAt (C : Addr) (H : Hp) (x : Addr) (rows : List (Str × Str)) : Prop := ∃ (dx t : Addr) (ts : List Addr), H x = some (.ins C dx [("rows", .ref t)]) ∧ H t = some (.tup (ts.map V.ref)) ∧ RowsAt H ts rows
theorem SchemaAt.same {C : Addr} {H H' : Hp} {x : Addr} {rows : List (Str × Str)} (h : SchemaAt C H x rows) (s : Same H H') : SchemaAt C H' x rows :=
  let ⟨dx, t, ts, e1, e2, e3⟩ := h
  ⟨dx, t, ts, s _ _ e1, s _ _ e2, e3.same s⟩
theorem SchemaAt.but {C p : Addr} {H H' : Hp} {x : Addr} {rows : List (Str × Str)} (h : SchemaAt C H x rows) (hp : Pot H p) (s : But p H H') : SchemaAt C H' x rows := by
  obtain ⟨dx, t, ts, e1, e2, e3⟩ := h
  refine ⟨dx, t, ts, s _ _ (fun z => ?_) e1, pot_kind hp s _ _ (.inl ⟨_, rfl⟩) e2, e3.pot hp s⟩
  obtain ⟨_, _, _, _, _, ep⟩ := hp
  rw [z, ep] at e1
  cases e1
section
variable {K : PySem.W.Frag} {mg : Str → Option Value} {P : Program} {base : Heap} {w : World}
def spInit (C : Addr) : Sp := fun vs H Q _ => ∃ (x l dx : Addr) (ts : List Addr) (rows : List (Str × Str)) (a b : Nat), vs = [.ref x, .ref l] ∧ H x = some (.ins C dx []) ∧ H l = some (.lst (ts.map V.ref)) ∧ RowsAt H ts rows ∧ RowsOk rows a b ∧ a ≤ 12 ∧ b ≤ 4 ∧ rows ≠ [] ∧
  ∀ H' : Hp, (∀ b o, b ≠ x → H b = some o → H' b = some o) → SchemaAt C H' x rows → Q .non H'
theorem ok_init {f fN fF fP C : Addr} {fd fdN fdF fdP : FuncData} {k : Nat} (F : Fun K "__init__" "Schema.__init__" sInit f fd) (DN : DefAt K mg "is_name" sName ["thing"] fN fdN) (DF : DefAt K mg "is_field" sField ["thing"] fF fdF)
    (DP : DefAt K mg "field_problem" sProb ["field", "earlier"] fP fdP) (S : Sx K mg C) (T : Tx mg) : FnOk P w K mg base CX0 (k + 4) f fd ["self", "fields"] (spInit C) := by
  have GP : FnOk P w K mg base CX0 (k + 3) fP fdP ["field", "earlier"] spProb := ok_prob DP.F DN DF S T
  refine F.ok scInit (fun vs H Q E h => ?_) (fun cdv A outer s H vs Q E hr h => ?_)
  · obtain ⟨x, l, dx, ts, rows, a, b, rfl, _⟩ := h
    rfl
  · obtain ⟨x, l, dx, ts, rows, a, b, rfl, hx, hl, hrw, ok, ha, hb, ne, q⟩ := h
    have len := ok.len
    refine ⟨_, pss_cons (ps_if (PW.pt (pw_or (pt_not (pt_val (pe_callB call_isiT (by rfl) T.isi (by decide +kernel) (pa_cons (pv 1) (pa_cons (pe_tup (pa_cons (pe_bltn (v := .ty "list") (by rfl) T.lst (by decide +kernel) rfl) (pa_cons (pe_bltn (v := .ty "tuple") (by rfl) T.tup (by decide +kernel) rfl) pa_nil))) pa_nil)))))
          (pw_or1 (pt_cmpR op_eq (pe_callB call_len_seq (by rfl) T.len PySem.boot_len (pa_cons (pv 1) pa_nil)) pe_int (nomark _))))) (pss_one ps_never) pss_nil)
      (pss_cons (ps_set (i := 2) scInit.nd rfl (.inl rfl) (pe_lst pa_nil))
      (pss_cons (ps_for PassesOwn.never rfl (pi_enum (by rfl) T.enum (pa_cons (pv 1) pa_nil)) (pg_tup rfl (pgs_cons (pg_name (i := 3) scInit.nd rfl (.inl rfl)) (pgs_cons (pg_name (i := 4) scInit.nd rfl (.inl rfl)) pgs_nil)))
        (pss_cons (ps_set (i := 5) scInit.nd rfl (.inl rfl) (pe_call GP hr (by rfl) DP.g DP.F.kp DP.b .nil pass0 (pa_cons (pv 4) (pa_cons (pv 2) pa_nil))))
        (pss_cons (ps_if (pt_cmpR op_notN (pv 5) pe_non (nomark _)) (pss_one ps_never) pss_nil)
        (pss_cons (ps_asg (pv 4) (pg_tup rfl (pgs_cons (pg_name (i := 6) scInit.nd rfl (.inl rfl)) (pgs_cons (pg_name (i := 7) scInit.nd rfl (.inl rfl)) pgs_nil))))
        (pss_one (ps_expr (pe_bm PySem.F.plainAttrs_list PySem.F.slot_list_append PySem.F.type_list_append mt_append (pv 2) (pa_cons (pe_tup (pa_cons (pv 6) (pa_cons (pv 7) pa_nil))) pa_nil))))))))
      (pss_one (ps_fld (pv 0) (pe_callTy call_tuple_of (by rfl) T.tup (by decide +kernel) (pa_cons (pv 2) pa_nil)) rfl)))), ?_⟩
    refine ⟨.ref l, rfl, (by show 2 ≤ sizeLine; decide), fun tp ntp => ?_⟩
    have s1 : Same H (upd H tp (.tup [.ty "list", .ty "tuple"])) := same_new ntp
    have a1 : (upd H tp (.tup [.ty "list", .ty "tuple"])) tp = some (.tup [.ty "list", .ty "tuple"]) := upd_same
    generalize upd H tp (.tup [.ty "list", .ty "tuple"]) = H1 at *
    have hl1 := s1 _ _ hl
    refine ⟨.ref l, tp, _, .type "list", [.type "list", .type "tuple"], true, rfl, a1, .cons (.ty _) (.cons (.ty _) .nil), .base (.lst hl1), kitAny_cons (b := true) (kit_ty (by decide +kernel)) nofun (fun _ => rfl), true, rfl, iteF ?_⟩
    refine ⟨.ref l, rfl, l, _, rfl, .inl (.inl (.inl hl1)), rfl, _, rfl, ?_⟩
    have lne : ¬ (((ts.map V.ref).length : Int) = 0) := by
      rw [List.length_map, hrw.1]
      have := List.length_pos_iff.mpr ne
      omega
    rw [show decide (V.int ((ts.map V.ref).length : Int) = V.int 0) = false from decide_eq_false fun e => lne (V.int.inj e)]
    refine iteF ⟨Nat.zero_le _, fun rw_ nrw => ?_⟩
    have s2 : Same H1 (upd H1 rw_ (.lst [])) := same_new nrw
    have a2 : (upd H1 rw_ (.lst [])) rw_ = some (.lst []) := upd_same
    have nrwH : H rw_ = none := none_of s1 nrw
    generalize upd H1 rw_ (.lst []) = H2 at *
    have s02 := s1.trans s2
    refine ⟨.ref l, rfl, l, _, rfl, .inl (.inl (s02 _ _ hl)), ?_⟩
    refine for_it (walk_enum (K := K) (a := l) (xs := ts.map V.ref)) (fun i σ Hx => ∃ y3 y4 y5 y6 y7, σ = [some (.ref x), some (.ref l), some (.ref rw_), y3, y4, y5, y6, y7] ∧ Same H Hx ∧ ∃ es : List Addr, Hx rw_ = some (.lst (es.map V.ref)) ∧ RowsAt Hx es (rows.take i))
      ⟨none, none, none, none, none, rfl, s02, [], a2, rfl, fun j t h => by simp at h⟩ (fun i σ Hx _ pv => ?_) (fun i y σ Hx Hx' hi pv yy => ?_) (fun σ Hx pv => ?_)
    · obtain ⟨_, _, _, _, _, _, sx, _⟩ := pv
      exact .inl (.inl (sx _ _ hl))
    · obtain ⟨y3, y4, y5, y6, y7, rfl, sx, es, erw, hes⟩ := pv
      obtain ⟨T1, x1, x2, rfl, nT, rfl, f1, f2⟩ := yy
      cases Option.some.inj f1
      have f2 : (ts.map V.ref)[i]? = some x2 := f2
      rw [List.getElem?_map] at f2
      obtain ⟨t, ht, rfl⟩ := Option.map_eq_some_iff.mp f2
      obtain ⟨r, er, etr⟩ := (hrw.same sx).2 i t ht
      have li := (List.getElem?_eq_some_iff.mp er).1
      have sT : Same Hx (upd Hx T1 (.tup [.int (i : Nat), .ref t])) := same_new nT
      have aT : (upd Hx T1 (.tup [.int (i : Nat), .ref t])) T1 = some (.tup [.int (i : Nat), .ref t]) := upd_same
      generalize upd Hx T1 (.tup [.int (i : Nat), .ref t]) = Hy at *
      refine ⟨T1, _, rfl, .inl (.inl aT), rfl, .int (i : Nat), [.ref t], rfl, .ref t, [], rfl, rfl, ?_⟩
      have mem : r ∈ rows := List.mem_of_getElem? er
      refine ⟨.ref t, rfl, .ref rw_, rfl, t, rw_, es, r, rows.take i, rfl, sT _ _ etr, ok.nm r mem, ok.kd r mem, sT _ _ erw, hes.same sT, by rw [List.length_take]; omega, fits_of ok ha hb er, fun Hz sz => ?_⟩
      have sxz : Same Hx Hz := sT.trans sz
      have erz := sxz _ _ erw
      refine ⟨.non, rfl, rfl, _, rfl, ?_⟩
      refine iteF ⟨.ref t, rfl, t, _, rfl, .inl (.inl (sxz _ _ etr)), rfl, .str r.1, _, rfl, .str r.2, [], rfl, rfl, ?_⟩
      refine ⟨.ref rw_, rfl, .inl ⟨rfl, _, SqL.of erz⟩, .str r.1, rfl, .str r.2, rfl, (by show 2 ≤ sizeLine; decide), fun e nE => ?_⟩
      have re : rw_ ≠ e := ne_of_none erz nE
      have sE : Same Hz (upd Hz e (.tup [.str r.1, .str r.2])) := same_new nE
      have aE : (upd Hz e (.tup [.str r.1, .str r.2])) e = some (.tup [.str r.1, .str r.2]) := upd_same
      generalize upd Hz e (.tup [.str r.1, .str r.2]) = Hw at *
      have erw2 := sE _ _ erz
      refine ⟨rw_, _, _, rfl, rfl, erw2, ?_, ?_⟩
      · rw [List.length_map, hes.1, List.length_take]
        exact small1000 (by omega)
      · have kp : KeepsPK Hw (upd Hw rw_ (.lst (es.map V.ref ++ [.ref e]))) := pk_put erw2 (not_pk_refs es)
        refine ⟨_, _, _, _, _, rfl, fun b o h => ?_, es ++ [e], ?_, RowsAt.add hes ((Same.pk (sxz.trans sE)).trans kp) er (kp _ _ (.inl ⟨_, rfl⟩) aE)⟩
        · rw [upd_ne (ne_of_none h nrwH)]
          exact sE _ _ (sxz _ _ (sx _ _ h))
        · rw [upd_same, List.map_append]
          rfl
    · obtain ⟨y3, y4, y5, y6, y7, rfl, sx, es, erw, hes⟩ := pv
      have et : rows.take (ts.map V.ref).length = rows := List.take_of_length_le (by rw [List.length_map, hrw.1]; exact Nat.le_refl _)
      rw [et] at hes
      refine ⟨.ref rw_, rfl, rw_, _, rfl, .inl ⟨.inl (.inl erw), fun t nt => ?_⟩⟩
      have hxx := sx _ _ hx
      have xt : x ≠ t := ne_of_none hxx nt
      refine ⟨.ref x, rfl, x, C, dx, [], rfl, by rw [upd_ne xt]; exact hxx, S.cl, S.nR, (by show 0 < 1000; decide), ?_⟩
      have kx : KeepsPK (upd Hx t (.tup (es.map V.ref))) (upd (upd Hx t (.tup (es.map V.ref))) x (.ins C dx (putF "rows" (.ref t) []))) := pk_put (o := .ins C dx []) (by rw [upd_ne xt]; exact hxx) (by rintro (⟨_, h⟩ | ⟨_, _, h⟩) <;> cases h)
      refine q _ (fun b o nb h => ?_) ⟨dx, t, es, upd_same, kx _ _ (.inl ⟨_, rfl⟩) upd_same, hes.1, fun j e he => ?_⟩
      · rw [upd_ne nb, upd_ne (ne_of_none (sx _ _ h) nt)]
        exact sx _ _ h
      · obtain ⟨r, e1, e2⟩ := hes.2 j e he
        exact ⟨r, e1, kx _ _ (.inl ⟨_, rfl⟩) (same_new nt _ _ e2)⟩
def spLenM (C : Addr) : Sp := fun vs H Q _ => ∃ (x : Addr) (rows : List (Str × Str)), vs = [.ref x] ∧ SchemaAt C H x rows ∧ Q (.int rows.length) H
theorem ok_len {f C : Addr} {fd : FuncData} {k : Nat} (F : Fun K "__len__" "Schema.__len__" sLen f fd) (S : Sx K mg C) (T : Tx mg) : FnOk P w K mg base CX0 (k + 1) f fd ["self"] (spLenM C) := by
  refine F.ok scLen (fun vs H Q E h => ?_) (fun cdv A outer s H vs Q E hr h => ?_)
  · obtain ⟨x, rows, rfl, _⟩ := h
    rfl
  · obtain ⟨x, rows, rfl, ⟨dx, t, ts, e1, e2, e3⟩, q⟩ := h
    refine ⟨_, pss_one (ps_ret (pe_callB call_len_seq (by rfl) T.len PySem.boot_len (pa_cons (pe_fld (pv 0) rfl) pa_nil))), ?_⟩
    refine ⟨.ref x, rfl, x, C, dx, _, _, rfl, e1, S.cl, S.nR, rfl, t, _, rfl, .inr (.inl (.inl e2)), ?_⟩
    rw [List.length_map, e3.1]
    exact q
def spFlds (C : Addr) : Sp := fun vs H Q _ => ∃ (x : Addr) (rows : List (Str × Str)), vs = [.ref x] ∧ SchemaAt C H x rows ∧ ∀ (H' : Hp) (l : Addr) (ts : List Addr), Same H H' → H l = none → H' l = some (.lst (ts.map V.ref)) → RowsAt H' ts rows → Q (.ref l) H'
theorem ok_flds {f C : Addr} {fd : FuncData} {k : Nat} (F : Fun K "fields" "Schema.fields" sFlds f fd) (S : Sx K mg C) (T : Tx mg) : FnOk P w K mg base CX0 (k + 1) f fd ["self"] (spFlds C) := by
  refine F.ok scFlds (fun vs H Q E h => ?_) (fun cdv A outer s H vs Q E hr h => ?_)
  · obtain ⟨x, rows, rfl, _⟩ := h
    rfl
  · obtain ⟨x, rows, rfl, ⟨dx, t, ts, e1, e2, e3⟩, q⟩ := h
    refine ⟨_, pss_one (ps_ret (pe_callTy call_list_of (by rfl) T.lst (by decide +kernel) (pa_cons (pe_fld (pv 0) rfl) pa_nil))), ?_⟩
    refine ⟨.ref x, rfl, x, C, dx, _, _, rfl, e1, S.cl, S.nR, rfl, t, _, rfl, .inr (.inl (.inl e2)), fun l nl => ?_⟩
    exact q _ l ts (same_new nl) nl upd_same (e3.same (same_new nl))
end
end K14
set_option Elab.async false
set_option linter.all false
set_option maxRecDepth 100000
namespace K14
open PySem PySem.Spec PyProof.Rows L2 Kx Kz Kc TL ClX
def verL (rows : List (Str × Str)) (xs : List V) : Bool := decide (xs.length = rows.length) && ((rows.zip xs).all fun q => valB q.1.2 q.2)
def IsVer (H : Hp) (rows : List (Str × Str)) (v : V) (b : Bool) : Prop :=
  (∃ a xs, v = .ref a ∧ H a = some (.tup xs) ∧ b = verL rows xs) ∨ ((∀ a xs, v = .ref a → H a ≠ some (.tup xs)) ∧ b = false)
theorem IsVer.one {H : Hp} {rows : List (Str × Str)} {v : V} {b c : Bool} (h : IsVer H rows v b) (g : IsVer H rows v c) : b = c := by
  rcases h with ⟨a, xs, e1, e2, rfl⟩ | ⟨n, rfl⟩
  · rcases g with ⟨a', xs', f1, f2, rfl⟩ | ⟨m, rfl⟩
    · rw [e1] at f1
      cases f1
      rw [e2] at f2
      cases Option.some.inj f2
      rfl
    · exact absurd e2 (m a xs e1)
  · rcases g with ⟨a', xs', f1, f2, rfl⟩ | ⟨m, rfl⟩
    · exact absurd f2 (n a' xs' f1)
    · rfl
def Thing2 (K : PySem.W.Frag) (H : Hp) (v : V) : Prop := Thing K H v ∧ ∀ a xs, v = .ref a → H a = some (.tup xs) → xs.length ≤ 1000 ∧ ∀ x ∈ xs, Thing K H x
theorem zip_take_next {α β γ : Type} (f : α × β → γ) (xs : List α) (ys : List β) (i : Nat) (x : α) (y : β) (h1 : xs[i]? = some x) (h2 : ys[i]? = some y) : ((xs.zip ys).take i).map f ++ [f (x, y)] = ((xs.zip ys).take (i + 1)).map f := by
  rw [List.take_add_one, show (xs.zip ys)[i]? = some (x, y) by rw [List.getElem?_zip_eq_some]; exact ⟨h1, h2⟩, List.map_append]
  rfl
section
variable {K : PySem.W.Frag} {mg : Str → Option Value} {P : Program} {base : Heap} {w : World}
def spValue (K : PySem.W.Frag) : Sp := fun vs H Q _ => ∃ (k : Str) (v : V), vs = [.str k, v] ∧ Thing K H v ∧ ∀ H', Same H H' → Q (.bl (valB k v)) H'
theorem ok_value {f fN fW : Addr} {fd fdN fdW : FuncData} {k : Nat} (F : Fun K "is_value" "is_value" sValue f fd) (DN : DefAt K mg "is_name" sName ["thing"] fN fdN) (DW : DefAt K mg "is_whole_number" sWhole ["thing"] fW fdW) (T : Tx mg) :
    FnOk P w K mg base CX0 (k + 2) f fd ["kind", "thing"] (spValue K) := by
  have GN : FnOk P w K mg base CX0 (k + 1) fN fdN ["thing"] (spName K) := ok_name DN.F T
  have GW : FnOk P w K mg base CX0 (k + 1) fW fdW ["thing"] (spWhole K) := ok_whole DW.F T
  obtain ⟨tc, hc⟩ := T.cnt
  refine F.ok scValue (fun vs H Q E h => ?_) (fun cdv A outer s H vs Q E hr h => ?_)
  · obtain ⟨k, v, rfl, _⟩ := h
    rfl
  · obtain ⟨k, v, rfl, tv, q⟩ := h
    refine ⟨_, pss_one (ps_ret (pe_ifExp (pt_cmpR op_eq (pv 0) (pe_glob (v := .str "counter") (by rfl) hc ⟨_, rfl⟩) (nomark _)) (pe_call GW hr (by rfl) DW.g DW.F.kp DW.b .nil pass0 (pa_cons (pv 1) pa_nil)) (pe_call GN hr (by rfl) DN.g DN.F.kp DN.b .nil pass0 (pa_cons (pv 1) pa_nil)))), ?_⟩
    refine ⟨.str k, rfl, rfl, _, rfl, ?_⟩
    rw [dec_str]
    show (if isC k = true then _ else _)
    unfold valB at q
    cases c : isC k with
    | true =>
      rw [c] at q
      exact iteT ⟨v, rfl, v, rfl, tv, q H (Same.refl H)⟩
    | false =>
      rw [c] at q
      exact iteF ⟨v, rfl, v, rfl, tv, fun H' s' => q H' s'⟩
def spVersion (K : PySem.W.Frag) (C : Addr) : Sp := fun vs H Q _ => ∃ (x : Addr) (v : V) (rows : List (Str × Str)), vs = [.ref x, v] ∧ SchemaAt C H x rows ∧ rows.length ≤ 25 ∧ Thing2 K H v ∧ ∀ H' b, Same H H' → IsVer H rows v b → Q (.bl b) H'
theorem ok_version {f fN fW fV fL fG C : Addr} {fd fdN fdW fdV fdL fdG : FuncData} {k : Nat} (F : Fun K "is_version" "is_version" sVersion f fd) (DN : DefAt K mg "is_name" sName ["thing"] fN fdN) (DW : DefAt K mg "is_whole_number" sWhole ["thing"] fW fdW)
    (DV : DefAt K mg "is_value" sValue ["kind", "thing"] fV fdV) (FL : Fun K "__len__" "Schema.__len__" sLen fL fdL) (bL : Binds K fdL ["self"] []) (mL : Meth K C "__len__" fL) (FG : Fun K "fields" "Schema.fields" sFlds fG fdG) (bG : Binds K fdG ["self"] []) (mG : Meth K C "fields" fG) (S : Sx K mg C) (T : Tx mg) :
    FnOk P w K mg base CX0 (k + 3) f fd ["schema", "thing"] (spVersion K C) := by
  have GV : FnOk P w K mg base CX0 (k + 2) fV fdV ["kind", "thing"] (spValue K) := ok_value DV.F DN DW T
  have GL : FnOk P w K mg base CX0 (k + 1) fL fdL ["self"] (spLenM C) := ok_len FL S T
  have GG : FnOk P w K mg base CX0 (k + 2) fG fdG ["self"] (spFlds C) := ok_flds FG S T
  refine F.ok scVersion (fun vs H Q E h => ?_) (fun cdv A outer s H vs Q E hr h => ?_)
  · obtain ⟨x, v, rows, rfl, _⟩ := h
    rfl
  · obtain ⟨x, v, rows, rfl, hx, h25, ⟨tv, tv2⟩, q⟩ := h
    refine ⟨_, pss_cons (ps_if (PW.pt (pw_or (pt_not (pt_val (pe_callB call_isi (by rfl) T.isi (by decide +kernel) (pa_cons (pv 1) (pa_cons (pe_bltn (v := .ty "tuple") (by rfl) T.tup (by decide +kernel) rfl) pa_nil)))))
          (pw_or1 (pt_cmpR op_ne (pe_callB call_len_seq (by rfl) T.len PySem.boot_len (pa_cons (pv 1) pa_nil)) (pe_callB (call_lenI GL hr bL pass0) (by rfl) T.len PySem.boot_len (pa_cons (pv 0) pa_nil)) (nomark _))))) (pss_one (ps_ret pe_bl)) pss_nil)
      (pss_one (ps_ret (pe_callB (cr_all rfl) (by rfl) T.all (by decide +kernel) (pa_cons
        (pe_lc (own := [("name", 2), ("kind", 3), ("value", 4)]) (g := gTup K 2 (gCons (gTup K 2 (gCons (gName 2) (gCons (gName 3) gNil))) (gCons (gName 4) gNil))) (tt := tYes) (te := tCall (spValue K) [] E0 (tCons (tVar 3) (tCons (tVar 4) tNil))) rfl scVersion.nd
          (pi_zipM (by rfl) T.zip (pa_cons (pe_meth0 (pv 0) S.cl mG GG hr bG .nil pass0) (pa_cons (pv 1) pa_nil)))
          (blkOk_by (N := ["schema", "thing", "name", "kind", "value"]) (sc := defScope sVersion) (by decide +kernel))
          (fun _ _ _ _ _ => pg_tup rfl (pgs_cons (pg_tup rfl (pgs_cons (pg_name (i := 2) scVersion.nd rfl (Or.inl rfl)) (pgs_cons (pg_name (i := 3) scVersion.nd rfl (Or.inl rfl)) pgs_nil))) (pgs_cons (pg_name (i := 4) scVersion.nd rfl (Or.inl rfl)) pgs_nil)))
          (fun _ _ _ _ _ => pts_nil) (fun _ _ _ _ _ => pe_call GV hr (by rfl) DV.g DV.F.kp DV.b .nil pass0 (pa_cons (pv 3) (pa_cons (pv 4) pa_nil)))) pa_nil)))), ?_⟩
    rcases Thing.tupOr tv with ⟨a, xs, rfl, ea⟩ | ⟨no, u, ty, ko⟩
    · obtain ⟨xl, xt⟩ := tv2 a xs rfl ea
      refine ⟨.ref a, rfl, .ref a, .ty "tuple", _, .type "tuple", true, rfl, .ty "tuple", .base (.tup ea), kit_ty (by decide +kernel), true, rfl, iteF ?_⟩
      obtain ⟨dx, t, ts, e1, e2, e3⟩ := id hx
      refine ⟨.ref a, rfl, a, _, rfl, .inr (.inl (.inl ea)), .ref x, rfl, x, C, dx, _, rfl, e1, mL.at_, mL.fn, ⟨x, rows, rfl, hx, rows.length, rfl, by omega, by omega, ?_⟩⟩
      refine ⟨rfl, _, rfl, ?_⟩
      by_cases c : xs.length = rows.length
      · rw [show decide (V.int (xs.length : Int) = V.int (rows.length : Int)) = true from decide_eq_true (by rw [c])]
        refine iteF ⟨.ref x, rfl, x, dx, _, rfl, e1, rfl, ⟨x, rows, rfl, hx, fun H1 l ts1 s1 nl el rw1 => ?_⟩⟩
        have ea1 := s1 _ _ ea
        refine ⟨.ref a, rfl, l, a, _, xs, rfl, .inl (.inl el), .inl (.inl ea1), fun D nD => ?_⟩
        have tl : (ts1.map V.ref).length = rows.length := by rw [List.length_map, rw1.1]
        refine lc_it (walk_zipM (K := K) (a := l) (b := a) (xs := ts1.map V.ref) (ys := xs) (n := rows.length) (by rw [tl, c, Nat.min_self]))
          (fun i Hx => Same H1 Hx ∧ Hx D = some (.lst (((rows.zip xs).take i).map fun q => V.bl (valB q.1.2 q.2)))) ⟨same_new nD, upd_same⟩ (fun i Hx _ pv => ⟨.inl (.inl (pv.1 _ _ el)), .inl (.inl (pv.1 _ _ ea1))⟩) (fun i y Hx Hy hi pv yy => ?_) (fun Hx pv => ?_)
        · obtain ⟨sx, eD⟩ := pv
          obtain ⟨T1, v1, v2, rfl, nT, rfl, g1, g2⟩ := yy
          have g1 : (ts1.map V.ref)[i]? = some v1 := g1
          have g2 : xs[i]? = some v2 := g2
          rw [List.getElem?_map] at g1
          obtain ⟨t1, ht1, rfl⟩ := Option.map_eq_some_iff.mp g1
          obtain ⟨r, er, etr⟩ := (rw1.same sx).2 i t1 ht1
          have sT : Same Hx (upd Hx T1 (.tup [.ref t1, v2])) := same_new nT
          have aT : (upd Hx T1 (.tup [.ref t1, v2])) T1 = some (.tup [.ref t1, v2]) := upd_same
          generalize upd Hx T1 (.tup [.ref t1, v2]) = Hz at *
          refine ⟨T1, _, rfl, .inl (.inl aT), rfl, .ref t1, [v2], rfl, t1, _, rfl, .inl (.inl (sT _ _ etr)), rfl, .str r.1, _, rfl, .str r.2, [], rfl, rfl, v2, [], rfl, rfl, rfl, ?_⟩
          refine kept_yes ?_
          have tx : Thing K Hz v2 := (xt v2 (List.mem_of_getElem? g2)).same ((s1.trans sx).trans sT)
          refine ⟨.str r.2, rfl, v2, rfl, r.2, v2, rfl, tx, fun Hw sw => ⟨_, sw _ _ (sT _ _ eD), ?_, same_at nD ((sx.trans sT).trans sw), ?_⟩⟩
          · rw [List.length_map, List.length_take]
            exact small1000 (by omega)
          · rw [upd_same]
            exact congrArg (fun z => some (HO.lst z)) (zip_take_next (fun q : (Str × Str) × V => V.bl (valB q.1.2 q.2)) rows xs i r v2 er g2)
        · obtain ⟨sx, eD⟩ := pv
          have et : (rows.zip xs).take rows.length = rows.zip xs := List.take_of_length_le (by rw [List.length_zip]; omega)
          rw [et] at eD
          refine ⟨D, (rows.zip xs).map fun q => valB q.1.2 q.2, rfl, ?_, ?_⟩
          · rw [List.map_map]
            exact .inl (.inl eD)
          · refine q Hx _ (s1.trans sx) (.inl ⟨a, xs, rfl, ea, ?_⟩)
            unfold verL
            rw [decide_eq_true c, Bool.true_and, List.all_map]
            rfl
      · rw [show decide (V.int (xs.length : Int) = V.int (rows.length : Int)) = false from decide_eq_false fun e => c (by have := V.int.inj e; omega)]
        refine iteT (q H false (Same.refl H) (.inl ⟨a, xs, rfl, ea, ?_⟩))
        unfold verL
        rw [decide_eq_false c, Bool.false_and]
    · refine ⟨v, rfl, v, .ty "tuple", u, .type "tuple", false, rfl, .ty "tuple", ty, ko, false, rfl, iteT ?_⟩
      exact iteT (q H false (Same.refl H) (.inr ⟨no, rfl⟩))
def spIsRow (K : PySem.W.Frag) : Sp := fun vs H Q _ => ∃ (l : Addr) (ts : List Addr) (v : V) (rows : List (Str × Str)), vs = [.ref l, v] ∧ SqL K H l (ts.map V.ref) ∧ RowsAt H ts rows ∧ rows.length ≤ 25 ∧ Thing2 K H v ∧ ∀ H' b, Same H H' → IsVer H rows v b → Q (.bl b) H'
theorem ok_isrow {f fI fW : Addr} {fd fdI fdW : FuncData} {k : Nat} (F : Fun K "_law_is_row" "_law_is_row" sIsRow f fd) (DI : DefAt K mg "_law_is_int" sIsInt ["_law_item"] fI fdI) (DW : DefAt K mg "_law_is_word" sIsWord ["_law_item"] fW fdW) (T : Tx mg) :
    FnOk P w K mg base CX0 (k + 2) f fd ["_law_fields_here", "_law_item"] (spIsRow K) := by
  have GI : FnOk P w K mg base CX0 (k + 1) fI fdI ["_law_item"] (spWhole K) := ok_isint DI.F T
  have GW : FnOk P w K mg base CX0 (k + 1) fW fdW ["_law_item"] (spName K) := ok_word DW.F T
  refine F.ok scIsRow (fun vs H Q E h => ?_) (fun cdv A outer s H vs Q E hr h => ?_)
  · obtain ⟨l, ts, v, rows, rfl, _⟩ := h
    rfl
  · obtain ⟨l, ts, v, rows, rfl, hl, hrw, h25, ⟨tv, tv2⟩, q⟩ := h
    refine ⟨_, pss_cons (ps_if (PW.pt (pw_or (pt_not (pt_val (pe_callB call_isi (by rfl) T.isi (by decide +kernel) (pa_cons (pv 1) (pa_cons (pe_bltn (v := .ty "tuple") (by rfl) T.tup (by decide +kernel) rfl) pa_nil)))))
          (pw_or1 (pt_cmpR op_ne (pe_callB call_len_seq (by rfl) T.len PySem.boot_len (pa_cons (pv 1) pa_nil)) (pe_callB call_len_seq (by rfl) T.len PySem.boot_len (pa_cons (pv 0) pa_nil)) (nomark _))))) (pss_one (ps_ret pe_bl)) pss_nil)
      (pss_cons (ps_setLc (i := 2) (own := [("_law_row_here", 3), ("_law_one", 4)]) (g := gTup K 2 (gCons (gName 3) (gCons (gName 4) gNil))) (tt := tYes)
          (te := tIf (tTest (tOp rEq (tOp (rIxT K) (tVar 3) (tC (.int 1))) (tC (.str "counter")))) (tCall (spWhole K) [] E0 (tCons (tVar 4) tNil)) (tCall (spName K) [] E0 (tCons (tVar 4) tNil)))
          rfl scIsRow.nd rfl rfl (sw_true rfl rfl rfl (by decide +kernel)) (pi_zipM (by rfl) T.zip (pa_cons (pv 0) (pa_cons (pv 1) pa_nil)))
          (blkOk_by (N := ["_law_fields_here", "_law_item", "_law_found", "_law_row_here", "_law_one"]) (sc := defScope sIsRow) (by decide +kernel))
          (fun _ _ _ _ _ => pg_tup rfl (pgs_cons (pg_name (i := 3) scIsRow.nd rfl (Or.inl rfl)) (pgs_cons (pg_name (i := 4) scIsRow.nd rfl (Or.inl rfl)) pgs_nil)))
          (fun _ _ _ _ _ => pts_nil) (fun _ _ _ _ _ => pe_ifExp (pt_cmpR op_eq (pe_ix ix_tup (pv 3) pe_int (fun _ _ => rfl)) pe_str (nomark _)) (pe_call GI hr (by rfl) DI.g DI.F.kp DI.b .nil pass0 (pa_cons (pv 4) pa_nil)) (pe_call GW hr (by rfl) DW.g DW.F.kp DW.b .nil pass0 (pa_cons (pv 4) pa_nil))))
      (pss_one (ps_ret (pe_callB (cr_all rfl) (by rfl) T.all (by decide +kernel) (pa_cons (pv 2) pa_nil))))), ?_⟩
    rcases Thing.tupOr tv with ⟨a, xs, rfl, ea⟩ | ⟨no, u, ty, ko⟩
    · obtain ⟨xl, xt⟩ := tv2 a xs rfl ea
      refine ⟨.ref a, rfl, .ref a, .ty "tuple", _, .type "tuple", true, rfl, .ty "tuple", .base (.tup ea), kit_ty (by decide +kernel), true, rfl, iteF ?_⟩
      refine ⟨.ref a, rfl, a, _, rfl, .inr (.inl (.inl ea)), .ref l, rfl, l, _, rfl, .inl hl, rfl, _, rfl, ?_⟩
      have tl : (ts.map V.ref).length = rows.length := by rw [List.length_map, hrw.1]
      rw [tl]
      by_cases c : xs.length = rows.length
      · rw [show decide (V.int (xs.length : Int) = V.int (rows.length : Int)) = true from decide_eq_true (by rw [c])]
        refine iteF ⟨.ref l, rfl, .ref a, rfl, l, a, _, xs, rfl, hl, .inl (.inl ea), fun D nD => ?_⟩
        refine lc_it (walk_zipM (K := K) (a := l) (b := a) (xs := ts.map V.ref) (ys := xs) (n := rows.length) (by rw [tl, c, Nat.min_self]))
          (fun i Hx => Same H Hx ∧ Hx D = some (.lst (((rows.zip xs).take i).map fun q => V.bl (valB q.1.2 q.2)))) ⟨same_new nD, upd_same⟩ (fun i Hx _ pv => ⟨pv.1.seq hl, .inl (.inl (pv.1 _ _ ea))⟩) (fun i y Hx Hy hi pv yy => ?_) (fun Hx pv => ?_)
        · obtain ⟨sx, eD⟩ := pv
          obtain ⟨T1, v1, v2, rfl, nT, rfl, g1, g2⟩ := yy
          have g1 : (ts.map V.ref)[i]? = some v1 := g1
          have g2 : xs[i]? = some v2 := g2
          rw [List.getElem?_map] at g1
          obtain ⟨t1, ht1, rfl⟩ := Option.map_eq_some_iff.mp g1
          obtain ⟨r, er, etr⟩ := (hrw.same sx).2 i t1 ht1
          have sT : Same Hx (upd Hx T1 (.tup [.ref t1, v2])) := same_new nT
          have aT : (upd Hx T1 (.tup [.ref t1, v2])) T1 = some (.tup [.ref t1, v2]) := upd_same
          generalize upd Hx T1 (.tup [.ref t1, v2]) = Hz at *
          have tx : Thing K Hz v2 := (xt v2 (List.mem_of_getElem? g2)).same (sx.trans sT)
          have fin : ∀ Hw, Same Hz Hw → ∃ acc, Hw D = some (.lst acc) ∧ acc.length < sizeLine ∧ Same H (upd Hw D (.lst (acc ++ [.bl (valB r.2 v2)]))) ∧ (upd Hw D (.lst (acc ++ [.bl (valB r.2 v2)]))) D = some (.lst (((rows.zip xs).take (i + 1)).map fun q => V.bl (valB q.1.2 q.2))) := fun Hw sw => by
            refine ⟨_, sw _ _ (sT _ _ eD), ?_, same_at nD ((sx.trans sT).trans sw), ?_⟩
            · rw [List.length_map, List.length_take]
              exact small1000 (by omega)
            · rw [upd_same]
              exact congrArg (fun z => some (HO.lst z)) (zip_take_next (fun q : (Str × Str) × V => V.bl (valB q.1.2 q.2)) rows xs i r v2 er g2)
          refine ⟨T1, _, rfl, .inl (.inl aT), rfl, .ref t1, [v2], rfl, v2, [], rfl, rfl, rfl, ?_⟩
          refine kept_yes ?_
          refine ⟨.ref t1, rfl, t1, _, 1, .str r.2, rfl, rfl, .inl (.inl (sT _ _ etr)), atI_nat (j := 1) rfl, rfl, _, rfl, ?_⟩
          rw [dec_str]
          show (if isC r.2 = true then _ else _)
          unfold valB at fin
          cases cc : isC r.2 with
          | true =>
            rw [cc] at fin
            exact iteT ⟨v2, rfl, v2, rfl, tx, fin Hz (Same.refl Hz)⟩
          | false =>
            rw [cc] at fin
            exact iteF ⟨v2, rfl, v2, rfl, tx, fun Hw sw => fin Hw sw⟩
        · obtain ⟨sx, eD⟩ := pv
          have et : (rows.zip xs).take rows.length = rows.zip xs := List.take_of_length_le (by rw [List.length_zip]; omega)
          rw [et] at eD
          refine ⟨.ref D, rfl, D, (rows.zip xs).map fun q => valB q.1.2 q.2, rfl, ?_, ?_⟩
          · rw [List.map_map]
            exact .inl (.inl eD)
          · refine q Hx _ sx (.inl ⟨a, xs, rfl, ea, ?_⟩)
            unfold verL
            rw [decide_eq_true c, Bool.true_and, List.all_map]
            rfl
      · rw [show decide (V.int (xs.length : Int) = V.int (rows.length : Int)) = false from decide_eq_false fun e => c (by have := V.int.inj e; omega)]
        refine iteT (q H false (Same.refl H) (.inl ⟨a, xs, rfl, ea, ?_⟩))
        unfold verL
        rw [decide_eq_false c, Bool.false_and]
    · refine ⟨v, rfl, v, .ty "tuple", u, .type "tuple", false, rfl, .ty "tuple", ty, ko, false, rfl, iteT ?_⟩
      exact iteT (q H false (Same.refl H) (.inr ⟨no, rfl⟩))
end
end K14
set_option Elab.async false
set_option linter.all false
set_option maxRecDepth 100000
namespace K14
open PySem PySem.Spec PyProof.Rows L2 Kx Kz Kc TL ClX
/-- a thing that is not the pot, nor holds it -/
structure T2 (K : PySem.W.Frag) (H : Hp) (p : Addr) (v : V) : Prop where
  th : Thing K H v
  ne : v ≠ .ref p
  it : ∀ a xs, v = .ref a → H a = some (.tup xs) → xs.length ≤ 1000 ∧ ∀ x ∈ xs, Thing K H x ∧ x ≠ .ref p
theorem T2.but {K : PySem.W.Frag} {H H' : Hp} {p : Addr} {v : V} (t : T2 K H p v) (b : But p H H') : T2 K H' p v := by
  refine ⟨t.th.but t.ne b, t.ne, fun a xs e h => ?_⟩
  have ap : a ≠ p := fun z => t.ne (by rw [e, z])
  have th := t.th
  rw [e] at th
  cases th with
  | lst g =>
    rw [b _ _ ap g] at h
    cases h
  | dct g =>
    rw [b _ _ ap g] at h
    cases h
  | tup g =>
    rw [b _ _ ap g] at h
    cases Option.some.inj h
    obtain ⟨h1, h2⟩ := t.it a _ e g
    exact ⟨h1, fun x hx => ⟨(h2 x hx).1.but (h2 x hx).2 b, (h2 x hx).2⟩⟩
theorem T2.same {K : PySem.W.Frag} {H H' : Hp} {p : Addr} {v : V} (t : T2 K H p v) (b : Same H H') : T2 K H' p v := t.but (Same.but b)
/-- .. if it is a list, its items are such things too -/
structure T3 (K : PySem.W.Frag) (H : Hp) (p : Addr) (v : V) : Prop where
  t2 : T2 K H p v
  ls : ∀ a xs, v = .ref a → H a = some (.lst xs) → xs.length ≤ 1000 ∧ ∀ x ∈ xs, T2 K H p x
theorem T3.but {K : PySem.W.Frag} {H H' : Hp} {p : Addr} {v : V} (t : T3 K H p v) (b : But p H H') : T3 K H' p v := by
  refine ⟨t.t2.but b, fun a xs e h => ?_⟩
  have ap : a ≠ p := fun z => t.t2.ne (by rw [e, z])
  have th := t.t2.th
  rw [e] at th
  cases th with
  | lst g =>
    rw [b _ _ ap g] at h
    cases Option.some.inj h
    obtain ⟨h1, h2⟩ := t.ls a _ e g
    exact ⟨h1, fun x hx => (h2 x hx).but b⟩
  | dct g =>
    rw [b _ _ ap g] at h
    cases h
  | tup g =>
    rw [b _ _ ap g] at h
    cases h
theorem T3.same {K : PySem.W.Frag} {H H' : Hp} {p : Addr} {v : V} (t : T3 K H p v) (b : Same H H') : T3 K H' p v := t.but (Same.but b)
theorem t2_flat {K : PySem.W.Frag} {H : Hp} {p : Addr} {v : V} (h : Thing K H v) (n : ∀ a, v ≠ .ref a) : T2 K H p v := ⟨h, n p, fun a xs e _ => absurd e (n a)⟩
theorem t3_flat {K : PySem.W.Frag} {H : Hp} {p : Addr} {v : V} (h : Thing K H v) (n : ∀ a, v ≠ .ref a) : T3 K H p v := ⟨t2_flat h n, fun a xs e _ => absurd e (n a)⟩
theorem t2_tup {K : PySem.W.Frag} {H : Hp} {p a : Addr} {xs : List V} (e : H a = some (.tup xs)) (ap : a ≠ p) (l : xs.length ≤ 1000) (h : ∀ x ∈ xs, Thing K H x ∧ x ≠ .ref p) : T2 K H p (.ref a) :=
  ⟨.tup e, fun z => ap (V.ref.inj z), fun b ys z g => by
    cases z
    rw [e] at g
    cases Option.some.inj g
    exact ⟨l, h⟩⟩
theorem t3_tup {K : PySem.W.Frag} {H : Hp} {p a : Addr} {xs : List V} (e : H a = some (.tup xs)) (ap : a ≠ p) (l : xs.length ≤ 1000) (h : ∀ x ∈ xs, Thing K H x ∧ x ≠ .ref p) : T3 K H p (.ref a) :=
  ⟨t2_tup e ap l h, fun b ys z g => by
    cases z
    rw [e] at g
    cases g⟩
theorem t2_lst {K : PySem.W.Frag} {H : Hp} {p a : Addr} {xs : List V} (e : H a = some (.lst xs)) (ap : a ≠ p) : T2 K H p (.ref a) :=
  ⟨.lst e, fun z => ap (V.ref.inj z), fun b ys z g => by
    cases z
    rw [e] at g
    cases g⟩
theorem t3_lst {K : PySem.W.Frag} {H : Hp} {p a : Addr} {xs : List V} (e : H a = some (.lst xs)) (ap : a ≠ p) (l : xs.length ≤ 1000) (h : ∀ x ∈ xs, T2 K H p x) : T3 K H p (.ref a) :=
  ⟨t2_lst e ap, fun b ys z g => by
    cases z
    rw [e] at g
    cases Option.some.inj g
    exact ⟨l, h⟩⟩
theorem t3_dct {K : PySem.W.Frag} {H : Hp} {p a : Addr} {kvs : List (Key × V)} (e : H a = some (.dK kvs)) (ap : a ≠ p) : T3 K H p (.ref a) :=
  ⟨⟨.dct e, fun z => ap (V.ref.inj z), fun b ys z g => by cases z; rw [e] at g; cases g⟩, fun b ys z g => by cases z; rw [e] at g; cases g⟩
theorem pot_ne_tup {H : Hp} {p a : Addr} {xs : List V} (hp : Pot H p) (e : H a = some (.tup xs)) : a ≠ p := fun z => by
  obtain ⟨_, _, _, _, _, ep⟩ := hp
  rw [z, ep] at e
  cases e
section
variable {K : PySem.W.Frag} {mg : Str → Option Value} {P : Program} {base : Heap} {w : World}
def spAny3 (K : PySem.W.Frag) : Sp := fun vs H Q _ => ∃ p : Addr, vs = [.ref p] ∧ Pot H p ∧ ∀ H' v, But p H H' → Pot H' p → T3 K H' p v → Q v H'
theorem ok_any {f fD : Addr} {fd fdD : FuncData} {k : Nat} (F : Fun K "_law_any_thing" "_law_any_thing" sAny f fd) (DD : DefAt K mg "_law_draw" sDraw ["_law_pot_here", "_law_many"] fD fdD) (T : Tx mg) :
    FnOk P w K mg base CX0 (k + 2) f fd ["_law_pot_here"] (spAny3 K) := by
  have GD : FnOk P w K mg base CX0 (k + 1) fD fdD ["_law_pot_here", "_law_many"] spDraw := ok_draw DD.F T
  refine F.ok scAny (fun vs H Q E h => ?_) (fun cdv A outer s H vs Q E hr h => ?_)
  · obtain ⟨p, rfl, _⟩ := h
    rfl
  · obtain ⟨p, rfl, hp, q⟩ := h
    refine ⟨_, pss_cons (ps_set (i := 1) scAny.nd rfl (.inl rfl) (pe_op op_add (pe_op op_pow pe_int pe_int) (pe_call GD hr (by rfl) DD.g DD.F.kp DD.b .nil pass0 (pa_cons (pv 0) (pa_cons (pe_op op_pow pe_int pe_int) pa_nil)))))
      (pss_cons (ps_set (i := 2) scAny.nd rfl (.inl rfl) (pe_lst (pa_cons pe_non (pa_cons pe_bl (pa_cons pe_bl (pa_cons (pe_un un_neg pe_int) (pa_cons pe_int (pa_cons pe_int (pa_cons (pv 1) (pa_cons (pe_un un_neg (pv 1))
        (pa_cons pe_str (pa_cons pe_str (pa_cons pe_str (pa_cons pe_str (pa_cons (pe_tup pa_nil) (pa_cons (pe_lst pa_nil) (pa_cons pe_dnewK (pa_cons (pe_lst (pa_cons pe_int pa_nil)) (pa_cons (pe_tup (pa_cons pe_int pa_nil))
        (pa_cons (pe_disp (pps_cons pe_int pe_int pps_nil) (by rfl) (by rfl) (fun z => by cases z) (by decide)) (pa_cons (pe_tup (pa_cons pe_str pa_nil)) pa_nil)))))))))))))))))))))
      (pss_one (ps_ret (pe_ix ix_list (pv 2) (pe_call GD hr (by rfl) DD.g DD.F.kp DD.b .nil pass0 (pa_cons (pv 0) (pa_cons (pe_callB call_len_seq (by rfl) T.len PySem.boot_len (pa_cons (pv 2) pa_nil)) pa_nil))) (fun _ _ => rfl))))), ?_⟩
    refine ⟨10, 20, rfl, rfl, ⟨by decide, by decide, by decide⟩, .ref p, rfl, 10, 9, rfl, rfl, ⟨by decide, by decide, by decide⟩, p, 10 ^ 9, rfl, hp, by decide, by decide, fun H1 d b1 hp1 d0 d1 => ?_⟩
    refine ⟨_, _, rfl, rfl, ?_⟩
    have z0 : 0 ≤ sizeLine := Nat.zero_le _
    have z1 : 1 ≤ sizeLine := by decide
    have z19 : 19 ≤ sizeLine := by decide
    refine ⟨1, rfl, .int (10 ^ 20 + d), rfl, .int (10 ^ 20 + d), rfl, 10 ^ 20 + d, rfl, z0, fun t1 n1 => ?_⟩
    refine ⟨z0, fun t2 n2 => fun t3 n3 => ⟨z1, fun t4 n4 => ⟨z1, fun t5 n5 => fun t6 n6 => ?_⟩⟩⟩
    refine ⟨upd_same, [(.inl 1, .int 2)], rfl, by decide, z1, fun t7 n7 => ⟨z19, fun l nl => ?_⟩⟩
    have s1 : Same H1 (upd H1 t1 (HO.tup [])) := same_new n1
    have a1 : (upd H1 t1 (HO.tup [])) t1 = some (HO.tup []) := upd_same
    generalize upd H1 t1 (HO.tup []) = H2 at *
    have s2 : Same H2 (upd H2 t2 (HO.lst [])) := same_new n2
    have a2 : (upd H2 t2 (HO.lst [])) t2 = some (HO.lst []) := upd_same
    generalize upd H2 t2 (HO.lst []) = H3 at *
    have s3 : Same H3 (upd H3 t3 (HO.dK [])) := same_new n3
    have a3 : (upd H3 t3 (HO.dK [])) t3 = some (HO.dK []) := upd_same
    generalize upd H3 t3 (HO.dK []) = H4 at *
    have s4 : Same H4 (upd H4 t4 (HO.lst [V.int 0])) := same_new n4
    have a4 : (upd H4 t4 (HO.lst [V.int 0])) t4 = some (HO.lst [V.int 0]) := upd_same
    generalize upd H4 t4 (HO.lst [V.int 0]) = H5 at *
    have s5 : Same H5 (upd H5 t5 (HO.tup [V.int 1])) := same_new n5
    have a5 : (upd H5 t5 (HO.tup [V.int 1])) t5 = some (HO.tup [V.int 1]) := upd_same
    generalize upd H5 t5 (HO.tup [V.int 1]) = H6 at *
    have s6 : Same H6 (upd (upd H6 t6 (HO.dK [])) t6 (HO.dK (mergeK [] [(Sum.inl 1, V.int 2)]))) := same_at n6 (same_new n6)
    have a6 : (upd (upd H6 t6 (HO.dK [])) t6 (HO.dK (mergeK [] [(Sum.inl 1, V.int 2)]))) t6 = some (HO.dK (mergeK [] [(Sum.inl 1, V.int 2)])) := upd_same
    generalize upd (upd H6 t6 (HO.dK [])) t6 (HO.dK (mergeK [] [(Sum.inl 1, V.int 2)])) = H7 at *
    have s7 : Same H7 (upd H7 t7 (HO.tup [V.str "a"])) := same_new n7
    have a7 : (upd H7 t7 (HO.tup [V.str "a"])) t7 = some (HO.tup [V.str "a"]) := upd_same
    generalize upd H7 t7 (HO.tup [V.str "a"]) = H8 at *
    obtain ⟨items, ei⟩ : ∃ xs : List V, xs = [.non, .bl true, .bl false, .int (-1), .int 0, .int 1, .int (10 ^ 20 + d), .int (-(10 ^ 20 + d)), .str "", .str "A", .str "a b", .str "ninesigns",
      .ref t1, .ref t2, .ref t3, .ref t4, .ref t5, .ref t6, .ref t7] := ⟨_, rfl⟩
    have l19 : items.length = 19 := by rw [ei]; rfl
    have s18 : Same H1 H8 := ((((((s1.trans s2).trans s3).trans s4).trans s5).trans s6).trans s7)
    have all : ∀ v ∈ items, T3 K H8 p v := by
      have np : ∀ {Hh : Hp} {t : Addr}, Same H1 Hh → Hh t = none → t ≠ p := fun sm n => (hp1.same sm).ne n
      rw [ei]
      simp only [List.forall_mem_cons]
      have one : ∀ v : V, (∃ i, v = .int i) ∨ (∃ z, v = .str z ∧ z.length ≤ sizeLine) → Thing K H8 v ∧ v ≠ .ref p := by
        rintro v (⟨i, rfl⟩ | ⟨z, rfl, h⟩)
        · exact ⟨.int i, nofun⟩
        · exact ⟨.str z h, nofun⟩
      refine ⟨t3_flat .non nofun, t3_flat (.bl _) nofun, t3_flat (.bl _) nofun, t3_flat (.int _) nofun, t3_flat (.int _) nofun, t3_flat (.int _) nofun, t3_flat (.int _) nofun, t3_flat (.int _) nofun,
        t3_flat (.str _ (by decide)) nofun, t3_flat (.str _ (by decide)) nofun, t3_flat (.str _ (by decide)) nofun, t3_flat (.str _ (by decide)) nofun,
        t3_tup ((((((s2.trans s3).trans s4).trans s5).trans s6).trans s7) _ _ a1) (np (fun _ _ e => e) n1) (Nat.zero_le _) (fun _ h => nomatch h),
        t3_lst (((((s3.trans s4).trans s5).trans s6).trans s7) _ _ a2) (np s1 n2) (Nat.zero_le _) (fun _ h => nomatch h),
        t3_dct ((((s4.trans s5).trans s6).trans s7) _ _ a3) (np (s1.trans s2) n3),
        t3_lst (((s5.trans s6).trans s7) _ _ a4) (np ((s1.trans s2).trans s3) n4) (by show 1 ≤ 1000; decide) (fun x h => by rw [List.mem_singleton.mp h]; exact t2_flat (.int _) nofun),
        t3_tup ((s6.trans s7) _ _ a5) (np (((s1.trans s2).trans s3).trans s4) n5) (by show 1 ≤ 1000; decide) (fun x h => by rw [List.mem_singleton.mp h]; exact one _ (.inl ⟨_, rfl⟩)),
        t3_dct (s7 _ _ a6) (np ((((s1.trans s2).trans s3).trans s4).trans s5) n6),
        t3_tup a7 (np (((((s1.trans s2).trans s3).trans s4).trans s5).trans s6) n7) (by show 1 ≤ 1000; decide) (fun x h => by rw [List.mem_singleton.mp h]; exact one _ (.inr ⟨_, rfl, by decide⟩)), fun _ h => nomatch h⟩
    have sl : Same H8 (upd H8 l (.lst items)) := same_new nl
    have al : (upd H8 l (.lst items)) l = some (.lst items) := upd_same
    have pl : l ≠ p := (hp1.same s18).ne nl
    have hp9 : Pot (upd H8 l (.lst items)) p := (hp1.same s18).same sl
    rw [ei] at al sl hp9
    refine ⟨.ref l, rfl, .ref p, rfl, .ref l, rfl, l, _, rfl, .inl (.inl (.inl al)), p, 19, rfl, hp9, by decide, by decide, fun H' i b2 hp2 i0 i1 => ?_⟩
    have al2 := b2 _ _ pl al
    rw [← ei] at al2 sl
    obtain ⟨v, vi, va⟩ := at_in (xs := items) i0 (by rw [l19]; exact i1)
    refine ⟨l, items, i, v, rfl, rfl, .inl (.inl al2), va, ?_⟩
    rw [← ei] at b2
    exact q _ _ ((b1.trans (Same.but (s18.trans sl))).trans b2) hp2 (((all _ vi).same sl).but b2)

def spSome : Sp := fun vs H Q _ => ∃ p : Addr, vs = [.ref p] ∧ Pot H p ∧
  ∀ (H' : Hp) (l : Addr) (ts : List Addr) (rows : List (Str × Str)) (a b : Nat), But p H H' → Pot H' p → H l = none → l ≠ p → H' l = some (.lst (ts.map V.ref)) → p ∉ ts → RowsAt H' ts rows → RowsOk rows a b → a ≤ 4 → b ≤ 4 → rows ≠ [] → Q (.ref l) H'
theorem ok_some {f fD fW fS fM fF : Addr} {fd fdD fdW fdS fdM fdF : FuncData} {k : Nat} (F : Fun K "_law_some_fields" "_law_some_fields" sSome f fd) (DD : DefAt K mg "_law_draw" sDraw ["_law_pot_here", "_law_many"] fD fdD)
    (DW : DefAt K mg "_law_word" sWord ["_law_pot_here", "_law_taken"] fW fdW) (DS : DefAt K mg "_law_words" sWords ["_law_pot_here", "_law_many"] fS fdS) (DM : DefAt K mg "_law_mixed" sMixed ["_law_pot_here", "_law_given"] fM fdM)
    (DF : DefAt K mg "_law_fields" sFields ["_law_pot_here", "_law_marks", "_law_sums"] fF fdF) (T : Tx mg) : FnOk P w K mg base CX0 (k + 5) f fd ["_law_pot_here"] spSome := by
  have GD : FnOk P w K mg base CX0 (k + 4) fD fdD ["_law_pot_here", "_law_many"] spDraw := ok_draw DD.F T
  have GF : FnOk P w K mg base CX0 (k + 4) fF fdF ["_law_pot_here", "_law_marks", "_law_sums"] spFields := ok_fields DF.F DD DW DS DM T
  refine F.ok scSome (fun vs H Q E h => ?_) (fun cdv A outer s H vs Q E hr h => ?_)
  · obtain ⟨p, rfl, _⟩ := h
    rfl
  · obtain ⟨p, rfl, hp, q⟩ := h
    refine ⟨_, pss_cons (ps_par (i := 1) (j := 2) (by rfl) scSome.nd rfl rfl (by decide) rfl rfl
        (pa_cons (pe_call GD hr (by rfl) DD.g DD.F.kp DD.b .nil pass0 (pa_cons (pv 0) (pa_cons pe_int pa_nil))) (pa_cons (pe_call GD hr (by rfl) DD.g DD.F.kp DD.b .nil pass0 (pa_cons (pv 0) (pa_cons pe_int pa_nil))) pa_nil)) (by rfl))
      (pss_one (ps_ret (pe_call GF hr (by rfl) DF.g DF.F.kp DF.b .nil pass0 (pa_cons (pv 0) (pa_cons (pv 1) (pa_cons (pe_callB (call_max2 rfl) (by rfl) T.mx (by decide +kernel)
        (pa_cons (pv 2) (pa_cons (pe_callTy call_int1 (by rfl) T.int (by decide +kernel) (pa_cons (pe_cmpR op_eq (pv 1) pe_int (nomark _)) pa_nil)) pa_nil))) pa_nil)))))), ?_⟩
    refine ⟨.ref p, rfl, p, 5, rfl, hp, by decide, by decide, fun H1 d1 b1 hp1 d10 d11 => ⟨.ref p, rfl, p, 5, rfl, hp1, by decide, by decide, fun H2 d2 b2 hp2 d20 d21 => ⟨_, _, rfl, ?_⟩⟩⟩
    obtain ⟨m, rfl⟩ := Int.eq_ofNat_of_zero_le d10
    obtain ⟨n, rfl⟩ := Int.eq_ofNat_of_zero_le d20
    refine ⟨.ref p, rfl, .int m, rfl, .int n, rfl, .int m, rfl, rfl, .inr ⟨_, rfl, n, _, rfl, ?_⟩⟩
    obtain ⟨g, hg, g4, gpos⟩ : ∃ g : Nat, (if (if decide (V.int (m : Int) = V.int 0) = true then (1 : Int) else 0) > (n : Int) then (if decide (V.int (m : Int) = V.int 0) = true then (1 : Int) else 0) else (n : Int)) = (g : Int) ∧ g ≤ 4 ∧ 0 < m + g := by
      by_cases c : m = 0
      · subst c
        rw [show decide (V.int ((0 : Nat) : Int) = V.int 0) = true from decide_eq_true rfl, if_pos rfl]
        by_cases c2 : (1 : Int) > (n : Int)
        · rw [if_pos c2]
          exact ⟨1, rfl, by omega, by omega⟩
        · rw [if_neg c2]
          exact ⟨n, rfl, by omega, by omega⟩
      · rw [show decide (V.int (m : Int) = V.int 0) = false from decide_eq_false fun e => c (by have := V.int.inj e; omega), if_neg Bool.false_ne_true]
        rw [if_neg (by omega)]
        exact ⟨n, rfl, by omega, by omega⟩
    rw [hg]
    have b02 := b1.trans b2
    refine ⟨p, m, g, rfl, hp2, by omega, fun H3 l ts rows b3 hp3 nl lp el _ pt rat rok => ?_⟩
    refine q H3 l ts rows m g (b02.trans b3) hp3 (b02.none nl lp) lp el pt rat rok (by omega) g4 fun e => ?_
    have := rok.len
    rw [e] at this
    simp at this
    omega
end
end K14
set_option Elab.async false
set_option linter.all false
set_option maxRecDepth 100000
namespace K14
open PySem PySem.Spec PyProof.Rows L2 Kx Kz Kc TL ClX
def FlatX (x : V) : Prop := (∃ i, x = .int i) ∨ ∃ z, x = .str z ∧ z.length ≤ sizeLine
theorem FlatX.thing {K : PySem.W.Frag} {H : Hp} {p : Addr} {x : V} (h : FlatX x) : Thing K H x ∧ x ≠ .ref p := by
  rcases h with ⟨i, rfl⟩ | ⟨z, rfl, l⟩
  · exact ⟨.int i, nofun⟩
  · exact ⟨.str z l, nofun⟩
def keyX : V → Key
  | .int i => .inl i
  | .str z => .inr z
  | _ => .inl 0
theorem keyX_eq {x : V} (h : FlatX x) : kV (keyX x) = x := by
  rcases h with ⟨i, rfl⟩ | ⟨z, rfl, l⟩ <;> rfl
theorem cut_sub {xs : List V} {lo hi : Option Int} {x : V} (h : x ∈ cutV xs lo hi) : x ∈ xs := List.mem_of_mem_drop (List.mem_of_mem_take h)
theorem sl_any {K : PySem.W.Frag} {H : Hp} {a : Addr} {xs : List V} {lo hi : Option Int} {Q : VK} (e : H a = some (.tup xs)) (q : ∀ H' b, Same H H' → H' b = some (.tup (cutV xs lo hi)) → Q (.ref b) H') : rSlA K (.ref a) lo hi H Q := by
  refine ⟨a, xs, rfl, .inl (.inl e), fun h => ?_, fun h p np => q _ p (same_new np) upd_same⟩
  have : cutV xs lo hi = xs := by
    unfold cutV
    rw [h.1, h.2, Nat.sub_zero, List.drop_zero, List.take_length]
  exact q H a (Same.refl H) (by rw [this]; exact e)
theorem sl_from {K : PySem.W.Frag} {H : Hp} {a : Addr} {xs : List V} {lo : Option Int} {σ : L2.St} {Q : VK} (e : H a = some (.tup xs)) (q : ∀ H' b, Same H H' → H' b = some (.tup (cutV xs lo none)) → Q (.ref b) H') :
    tNoPart σ H (fun u H3 => rSlA K (.ref a) lo u H3 Q) := sl_any (hi := none) e q
theorem cat_any {K : PySem.W.Frag} {H : Hp} {a b : Addr} {xs ys : List V} {Q : VK} (e1 : H a = some (.tup xs)) (e2 : H b = some (.tup ys)) (l : xs.length + ys.length ≤ sizeLine) (q : ∀ H' c, Same H H' → H' c = some (.tup (xs ++ ys)) → Q (.ref c) H') : rCatA K (.ref a) (.ref b) H Q := by
  refine ⟨a, b, xs, ys, rfl, rfl, .inl (.inl e1), .inl (.inl e2), l, fun h => ?_, fun _ h => ?_, fun _ _ p np => q _ p (same_new np) upd_same⟩
  · subst h
    exact q H b (Same.refl H) e2
  · subst h
    exact q H a (Same.refl H) (by rw [List.append_nil]; exact e1)
theorem joinL_le (S : List Nat) : ∀ ps : List (List Nat), (joinL S ps).length ≤ (ps.map List.length).sum + ps.length * S.length
  | [] => Nat.zero_le _
  | [p] => by
    show p.length ≤ _
    simp
  | p :: r :: rs => by
    have ih := joinL_le S (r :: rs)
    show (p ++ (S ++ joinL S (r :: rs))).length ≤ p.length + ((r :: rs).map List.length).sum + ((r :: rs).length + 1) * S.length
    rw [List.length_append, List.length_append, Nat.add_mul, Nat.one_mul]
    omega
theorem join_le (y : Str) (ys : List Str) : (Txt.join y ys).length ≤ (ys.map (·.length)).sum + ys.length * y.length := by
  have e : Txt.join y ys = Str.join y ys := by
    unfold Txt.join
    rw [StrLaws.glued_eq_join]
  have h := joinL_le (tl y) (ys.map tl)
  rw [← tl_join, ← len_tl, ← len_tl, List.length_map, List.map_map] at h
  rw [e]
  exact h
section
variable {K : PySem.W.Frag} {mg : Str → Option Value} {P : Program} {base : Heap} {w : World}
def spOdd (K : PySem.W.Frag) : Sp := fun vs H Q _ => ∃ (p rv : Addr) (xs : List V), vs = [.ref p, .ref rv] ∧ Pot H p ∧ H rv = some (.tup xs) ∧ (∀ x ∈ xs, FlatX x) ∧ 1 ≤ xs.length ∧ xs.length ≤ 25 ∧
  ∀ H' v, But p H H' → Pot H' p → T3 K H' p v → Q v H'
theorem ok_odd {f fD fM fA : Addr} {fd fdD fdM fdA : FuncData} {k : Nat} (F : Fun K "_law_odd" "_law_odd" sOdd f fd) (DD : DefAt K mg "_law_draw" sDraw ["_law_pot_here", "_law_many"] fD fdD)
    (DM : DefAt K mg "_law_mixed" sMixed ["_law_pot_here", "_law_given"] fM fdM) (DA : DefAt K mg "_law_any_thing" sAny ["_law_pot_here"] fA fdA) (T : Tx mg) : FnOk P w K mg base CX0 (k + 3) f fd ["_law_pot_here", "_law_row_here"] (spOdd K) := by
  have GD : FnOk P w K mg base CX0 (k + 2) fD fdD ["_law_pot_here", "_law_many"] spDraw := ok_draw DD.F T
  have GM : FnOk P w K mg base CX0 (k + 2) fM fdM ["_law_pot_here", "_law_given"] (spMixed K) := ok_mixed DM.F DD T
  have GA : FnOk P w K mg base CX0 (k + 2) fA fdA ["_law_pot_here"] (spAny3 K) := ok_any DA.F DD T
  refine F.ok scOdd (fun vs H Q E h => ?_) (fun cdv A outer s H vs Q E hr h => ?_)
  · obtain ⟨p, rv, xs, rfl, _⟩ := h
    rfl
  · obtain ⟨p, rv, xs, rfl, hp, erv, flat, x1, x25, q⟩ := h
    refine ⟨_, pss_cons (ps_par (i := 2) (j := 3) (by rfl) scOdd.nd rfl rfl (by decide) rfl rfl
        (pa_cons (pe_call GD hr (by rfl) DD.g DD.F.kp DD.b .nil pass0 (pa_cons (pv 0) (pa_cons pe_int pa_nil))) (pa_cons (pe_call GD hr (by rfl) DD.g DD.F.kp DD.b .nil pass0 (pa_cons (pv 0) (pa_cons (pe_callB call_len_seq (by rfl) T.len PySem.boot_len (pa_cons (pv 1) pa_nil)) pa_nil))) pa_nil)) (by rfl))
      (pss_cons (ps_if (pt_cmpR op_eq (pv 2) pe_int (nomark _)) (pss_one (ps_ret (pe_call GA hr (by rfl) DA.g DA.F.kp DA.b .nil pass0 (pa_cons (pv 0) pa_nil)))) pss_nil)
      (pss_cons (ps_if (pt_cmpR op_eq (pv 2) pe_int (nomark _))
        (pss_cons (ps_set (i := 4) scOdd.nd rfl (.inl rfl) (pe_lst (pa_cons (pe_callTy call_list_of (by rfl) T.lst (by decide +kernel) (pa_cons (pv 1) pa_nil)) (pa_cons (pe_slice sl_tupA (pv 1) po_none (po_some (pe_un un_neg pe_int)))
          (pa_cons (pe_op op_catA (pv 1) (pe_slice sl_tupA (pv 1) po_none (po_some pe_int))) (pa_cons (pe_op op_catA (pv 1) (pe_tup (pa_cons pe_int pa_nil))) (pa_cons (pe_tup (pa_cons (pv 1) pa_nil))
          (pa_cons (pe_dictZip rfl (by rfl) T.dict (by rfl) T.zip (pa_cons (pv 1) (pa_cons (pv 1) pa_nil))) pa_nil))))))))
        (pss_one (ps_ret (pe_op op_cat (pv 4) (pe_lst (pa_cons (pe_join pe_str (pe_op op_rep (pe_lst (pa_cons pe_str pa_nil)) (pe_callB call_len_seq (by rfl) T.len PySem.boot_len (pa_cons (pv 1) pa_nil))))
          (pa_cons (pe_op op_mulS pe_str (pe_callB call_len_seq (by rfl) T.len PySem.boot_len (pa_cons (pv 1) pa_nil))) pa_nil))))))) pss_nil)
      (pss_cons (ps_if (pt_cmpR op_lt (pv 2) pe_int (nomark _))
        (pss_one (ps_ret (pe_op op_catA (pe_op op_catA (pe_slice sl_tupA (pv 1) po_none (po_some (pv 3))) (pe_tup (pa_cons (pe_call GA hr (by rfl) DA.g DA.F.kp DA.b .nil pass0 (pa_cons (pv 0) pa_nil)) pa_nil))) (pe_slice sl_tupA (pv 1) (po_some (pe_op op_add (pv 3) pe_int)) po_none)))) pss_nil)
      (pss_cons (ps_if (pt_cmpR op_eq (pv 2) pe_int (nomark _))
        (pss_cons (ps_set (i := 5) scOdd.nd rfl (.inl rfl) (pe_ix ix_list (pe_lst (pa_cons pe_str (pa_cons pe_str (pa_cons pe_str (pa_cons pe_bl (pa_cons (pe_un un_neg pe_int) (pa_cons pe_int (pa_cons (pe_op op_pow pe_int pe_int) (pa_cons (pe_tup (pa_cons pe_str pa_nil)) pa_nil)))))))))
          (pe_call GD hr (by rfl) DD.g DD.F.kp DD.b .nil pass0 (pa_cons (pv 0) (pa_cons pe_int pa_nil))) (fun _ _ => rfl)))
        (pss_one (ps_ret (pe_op op_catA (pe_op op_catA (pe_slice sl_tupA (pv 1) po_none (po_some (pv 3))) (pe_tup (pa_cons (pv 5) pa_nil))) (pe_slice sl_tupA (pv 1) (po_some (pe_op op_add (pv 3) pe_int)) po_none))))) pss_nil)
      (pss_one (ps_ret (pe_callTy call_tuple_of (by rfl) T.tup (by decide +kernel) (pa_cons (pe_call GM hr (by rfl) DM.g DM.F.kp DM.b .nil pass0 (pa_cons (pv 0) (pa_cons (pv 1) pa_nil))) pa_nil)))))))), ?_⟩
    refine ⟨.ref p, rfl, p, 6, rfl, hp, by decide, by decide, fun H1 wy b1 hp1 w0 w1 => ?_⟩
    have erv1 := pot_kind hp b1 _ _ (.inl ⟨_, rfl⟩) erv
    refine ⟨.ref p, rfl, .ref rv, rfl, rv, _, rfl, .inr (.inl (.inl erv1)), p, xs.length, rfl, hp1, by omega, by omega, fun H2 at_ b2 hp2 a0 a1 => ⟨_, _, rfl, ?_⟩⟩
    have b02 := b1.trans b2
    have erv2 := pot_kind hp1 b2 _ _ (.inl ⟨_, rfl⟩) erv1
    have fl1000 : ∀ {lo hi : Option Int}, ∀ x ∈ cutV xs lo hi, FlatX x := fun x hx => flat x (cut_sub hx)
    have cl : ∀ {lo hi : Option Int}, (cutV xs lo hi).length ≤ 25 := Nat.le_trans (cutV_length _ _ _) x25
    have sz : (1000 : Nat) < sizeLine := by decide
    refine ⟨.int wy, rfl, rfl, _, rfl, ite2 (fun _ => ?_) (fun _ => ?_)⟩
    · exact ⟨.ref p, rfl, p, rfl, hp2, fun H3 v b3 hp3 t3 => q _ _ (b02.trans b3) hp3 t3⟩
    refine ⟨.int wy, rfl, rfl, _, rfl, ite2 (fun _ => ?_) (fun _ => ?_)⟩
    · refine ⟨.ref rv, rfl, rv, xs, rfl, .inr (.inl (.inl erv2)), fun l1 n1 => ?_⟩
      have s1 : Same H2 (upd H2 l1 (.lst xs)) := same_new n1
      have e1 : (upd H2 l1 (.lst xs)) l1 = some (.lst xs) := upd_same
      have l1p : l1 ≠ p := hp2.ne n1
      generalize upd H2 l1 (.lst xs) = Ha at *
      refine ⟨.ref rv, rfl, 1, rfl, -1, rfl, sl_any (s1 _ _ erv2) fun Hb c2 s2 e2 => ?_⟩
      refine ⟨.ref rv, rfl, .ref rv, rfl, 1, rfl, sl_any ((s1.trans s2) _ _ erv2) fun Hc c3 s3 e3 => ?_⟩
      refine cat_any (((s1.trans s2).trans s3) _ _ erv2) e3 (by have := @cl none (some 1); omega) fun Hd c4 s4 e4 => ?_
      refine ⟨.ref rv, rfl, (by show 1 ≤ sizeLine; decide), fun c5 n5 => ?_⟩
      have s5 : Same Hd (upd Hd c5 (.tup [.int 1])) := same_new n5
      have e5 : (upd Hd c5 (.tup [.int 1])) c5 = some (.tup [.int 1]) := upd_same
      generalize upd Hd c5 (.tup [.int 1]) = He at *
      refine cat_any (((((s1.trans s2).trans s3).trans s4).trans s5) _ _ erv2) e5 (by show _ + 1 ≤ sizeLine; omega) fun Hf c6 s6 e6 => ?_
      refine ⟨.ref rv, rfl, (by show 1 ≤ sizeLine; decide), fun c7 n7 => ?_⟩
      have s7 : Same Hf (upd Hf c7 (.tup [.ref rv])) := same_new n7
      have e7 : (upd Hf c7 (.tup [.ref rv])) c7 = some (.tup [.ref rv]) := upd_same
      generalize upd Hf c7 (.tup [.ref rv]) = Hg at *
      have s27 : Same H2 Hg := (((((s1.trans s2).trans s3).trans s4).trans s5).trans s6).trans s7
      have ervg := s27 _ _ erv2
      have mk : (xs.map fun x => (keyX x, x)).map (fun q => kV q.1) = xs := by
        rw [List.map_map]
        have : xs.map ((fun q : Key × V => kV q.1) ∘ fun x => (keyX x, x)) = xs.map id := List.map_congr_left fun x hx => keyX_eq (flat x hx)
        rw [this, List.map_id]
      have mv : (xs.map fun x => (keyX x, x)).map (·.2) = xs := by
        rw [List.map_map, show ((fun q : Key × V => q.2) ∘ fun x => (keyX x, x)) = id from rfl, List.map_id]
      refine ⟨.ref rv, rfl, .ref rv, rfl, rv, rv, xs.map fun x => (keyX x, x), rfl, by rw [mk]; exact .inl (.inl ervg), by rw [mv]; exact .inl (.inl ervg), fun d nd => ?_⟩
      have s8 : Same Hg (upd Hg d (.dK (mergeK [] (xs.map fun x => (keyX x, x))))) := same_new nd
      have e8 : (upd Hg d (.dK (mergeK [] (xs.map fun x => (keyX x, x))))) d = some (.dK (mergeK [] (xs.map fun x => (keyX x, x)))) := upd_same
      have dp : d ≠ p := (hp2.same s27).ne nd
      generalize upd Hg d (.dK (mergeK [] (xs.map fun x => (keyX x, x)))) = Hh at *
      refine ⟨(by show 6 ≤ sizeLine; decide), fun L1 nL1 => ?_⟩
      obtain ⟨its, ei⟩ : ∃ its : List V, its = [.ref l1, .ref c2, .ref c4, .ref c6, .ref c7, .ref d] := ⟨_, rfl⟩
      have s9 : Same Hh (upd Hh L1 (.lst its)) := same_new nL1
      have e9 : (upd Hh L1 (.lst its)) L1 = some (.lst its) := upd_same
      rw [ei] at s9 e9
      have s29 : Same H2 (upd Hh L1 (.lst [.ref l1, .ref c2, .ref c4, .ref c6, .ref c7, .ref d])) := (s27.trans s8).trans s9
      generalize upd Hh L1 (.lst [.ref l1, .ref c2, .ref c4, .ref c6, .ref c7, .ref d]) = Hi at *
      have hpi := hp2.same s29
      have t2h : ∀ x ∈ its, T2 K Hh p x := by
        have hph := hp2.same (s27.trans s8)
        have tp : ∀ {c : Addr} {ys : List V} {Hx : Hp}, Same Hx Hh → Hx c = some (.tup ys) → ys.length ≤ 1000 → (∀ x ∈ ys, FlatX x) → T2 K Hh p (.ref c) := fun sx ex l f =>
          t2_tup (sx _ _ ex) (pot_ne_tup hph (sx _ _ ex)) l fun x hx => (f x hx).thing
        rw [ei]
        simp only [List.forall_mem_cons]
        refine ⟨t2_lst ((((((((s2.trans s3).trans s4).trans s5).trans s6).trans s7).trans s8)) _ _ e1) l1p,
          tp ((((((s3.trans s4).trans s5).trans s6).trans s7).trans s8)) e2 (by have := @cl none (some (-1)); omega) fl1000,
          tp ((((s5.trans s6).trans s7).trans s8)) e4 (by have := @cl none (some 1); rw [List.length_append]; omega) (fun x hx => (List.mem_append.mp hx).elim (flat x) (fl1000 x)),
          tp (s7.trans s8) e6 (by rw [List.length_append]; show _ + 1 ≤ 1000; omega) (fun x hx => (List.mem_append.mp hx).elim (flat x) fun h => by rw [List.mem_singleton.mp h]; exact .inl ⟨_, rfl⟩),
          t2_tup (s8 _ _ e7) (pot_ne_tup hph (s8 _ _ e7)) (by show 1 ≤ 1000; decide) (fun x hx => by rw [List.mem_singleton.mp hx]; exact ⟨.tup (s8 _ _ ervg), fun z => pot_ne_tup hp2 erv2 (V.ref.inj z)⟩),
          (t3_dct e8 dp).t2, fun _ h => nomatch h⟩
      -- the two texts
      refine ⟨.ref L1, rfl, ⟨_, rfl⟩, (by show 1 ≤ sizeLine; decide), fun c8 n8 => ?_⟩
      have s10 : Same Hi (upd Hi c8 (.lst [.str "a"])) := same_new n8
      have e10 : (upd Hi c8 (.lst [.str "a"])) c8 = some (.lst [.str "a"]) := upd_same
      generalize upd Hi c8 (.lst [.str "a"]) = Hj at *
      have ervj := (s29.trans s10) _ _ erv2
      refine ⟨.ref rv, rfl, rv, xs, rfl, .inr (.inl (.inl ervj)), c8, xs.length, _, rfl, rfl, e10, by omega, by omega, ?_, fun c9 n9 => ?_⟩
      · show 1 * (xs.length : Int).toNat ≤ sizeLine
        omega
      rw [flat_rep, Int.toNat_natCast]
      have s11 : Same Hj (upd Hj c9 (.lst (List.replicate xs.length (.str "a")))) := same_new n9
      have e11 : (upd Hj c9 (.lst (List.replicate xs.length (.str "a")))) c9 = some (.lst (List.replicate xs.length (.str "a"))) := upd_same
      generalize upd Hj c9 (.lst (List.replicate xs.length (.str "a"))) = Hk at *
      have sum1 : ((List.replicate xs.length ("a" : Str)).map (·.length)).sum = xs.length := by
        rw [sum_ones _ fun y hy => by rw [(List.mem_replicate.mp hy).2]; rfl, List.length_replicate]
      have jl := join_le "," (List.replicate xs.length ("a" : Str))
      rw [sum1, List.length_replicate] at jl
      refine ⟨",", c9, List.replicate xs.length "a", rfl, rfl, .inl (.inl (.inl (by rw [List.map_replicate]; exact e11))), ?_, ?_⟩
      · rw [sum1, List.length_replicate]
        show xs.length + xs.length * 1 ≤ 16777216
        omega
      have ervk := s11 _ _ ervj
      refine ⟨.ref rv, rfl, rv, xs, rfl, .inr (.inl (.inl ervk)), "a", xs.length, rfl, rfl, by omega, by omega, rfl, (by show 2 ≤ sizeLine; decide), fun L2_ nL2 => ?_⟩
      have ml := mulS_len "a" xs.length rfl (by omega)
      generalize Txt.mul "a" (xs.length : Int) = m1 at *
      have jl2 : (Txt.join "," (List.replicate xs.length ("a" : Str))).length ≤ sizeLine := by
        have : ("," : Str).length = 1 := rfl
        rw [this] at jl
        omega
      generalize Txt.join "," (List.replicate xs.length ("a" : Str)) = j1 at *
      have s12 : Same Hk (upd Hk L2_ (.lst [.str j1, .str m1])) := same_new nL2
      have e12 : (upd Hk L2_ (.lst [.str j1, .str m1])) L2_ = some (.lst [.str j1, .str m1]) := upd_same
      generalize upd Hk L2_ (.lst [.str j1, .str m1]) = Hl at *
      have sil : Same Hi Hl := (s10.trans s11).trans s12
      refine ⟨L1, L2_, _, _, rfl, rfl, sil _ _ e9, e12, (by show 6 + 2 ≤ sizeLine; decide), fun L nL => ?_⟩
      have s13 : Same Hl (upd Hl L (.lst ([.ref l1, .ref c2, .ref c4, .ref c6, .ref c7, .ref d] ++ [.str j1, .str m1]))) := same_new nL
      have e13 : (upd Hl L (.lst ([.ref l1, .ref c2, .ref c4, .ref c6, .ref c7, .ref d] ++ [.str j1, .str m1]))) L = some (.lst ([.ref l1, .ref c2, .ref c4, .ref c6, .ref c7, .ref d] ++ [.str j1, .str m1])) := upd_same
      generalize upd Hl L (.lst ([.ref l1, .ref c2, .ref c4, .ref c6, .ref c7, .ref d] ++ [.str j1, .str m1])) = Hm at *
      have shm : Same Hh Hm := (s9.trans sil).trans s13
      have s2m : Same H2 Hm := (s29.trans sil).trans s13
      refine q _ _ (b02.trans (Same.but s2m)) (hp2.same s2m) (t3_lst e13 ((hpi.same sil).ne nL) (by show 8 ≤ 1000; decide) fun x hx => ?_)
      rcases (List.mem_append.mp hx : _ ∨ _) with hx | hx
      · rw [← ei] at hx
        exact (t2h x hx).same shm
      · simp only [List.mem_cons, List.not_mem_nil, or_false] at hx
        rcases hx with rfl | rfl
        · exact t2_flat (.str _ jl2) nofun
        · exact t2_flat (.str _ ml) nofun
    refine ⟨.int wy, rfl, wy, 4, rfl, rfl, _, rfl, ite2 (fun _ => ?_) (fun _ => ?_)⟩
    · refine ⟨.ref rv, rfl, .int at_, rfl, at_, rfl, sl_any erv2 fun H3 c1 s3 e1 => ?_⟩
      have hp3 := hp2.same s3
      refine ⟨.ref p, rfl, p, rfl, hp3, fun H4 v b4 hp4 t3 => ⟨(by show 1 ≤ sizeLine; decide), fun c2 n2 => ?_⟩⟩
      have e1' := pot_kind hp3 b4 _ _ (.inl ⟨_, rfl⟩) e1
      have erv4 := pot_kind hp3 b4 _ _ (.inl ⟨_, rfl⟩) (s3 _ _ erv2)
      have s5 : Same H4 (upd H4 c2 (.tup [v])) := same_new n2
      have e2 : (upd H4 c2 (.tup [v])) c2 = some (.tup [v]) := upd_same
      generalize upd H4 c2 (.tup [v]) = H5 at *
      refine cat_any (s5 _ _ e1') e2 (by have := @cl none (some at_); show _ + 1 ≤ sizeLine; omega) fun H6 c3 s6 e3 => ?_
      refine ⟨.ref rv, rfl, .int at_, rfl, _, _, rfl, rfl, at_ + 1, rfl, ?_⟩
      refine sl_from ((s5.trans s6) _ _ erv4) fun H7 c4 s7 e4 => ?_
      refine cat_any (s7 _ _ e3) e4 (by have h1 := @cl none (some at_); have h2 := @cl (some (at_ + 1)) none; rw [List.length_append]; show _ + 1 + _ ≤ sizeLine; omega) fun H8 c5 s8 e5 => ?_
      have s48 : Same H4 H8 := ((s5.trans s6).trans s7).trans s8
      have hp8 := hp4.same s48
      have tv := t3.same s48
      refine q _ _ (((b02.trans (Same.but s3)).trans b4).trans (Same.but s48)) hp8 (t3_tup e5 (pot_ne_tup hp8 e5) ?_ fun x hx => ?_)
      · have h1 := @cl none (some at_)
        have h2 := @cl (some (at_ + 1)) none
        rw [List.length_append, List.length_append]
        show _ + 1 + _ ≤ 1000
        omega
      · rcases (List.mem_append.mp hx : _ ∨ _) with hx | hx
        · rcases (List.mem_append.mp hx : _ ∨ _) with hx | hx
          · exact (fl1000 x hx).thing
          · rw [List.mem_singleton.mp hx]
            exact ⟨tv.t2.th, tv.t2.ne⟩
        · exact (fl1000 x hx).thing
    refine ⟨.int wy, rfl, rfl, _, rfl, ite2 (fun _ => ?_) (fun _ => ?_)⟩
    · refine ⟨1, rfl, 10, 40, rfl, rfl, ⟨by decide, by decide, by decide⟩, (by show 1 ≤ sizeLine; decide), fun ta na => ⟨(by show 8 ≤ sizeLine; decide), fun l8 n8 => ?_⟩⟩
      have sa : Same H2 (upd H2 ta (.tup [.str "a"])) := same_new na
      have ea : (upd H2 ta (.tup [.str "a"])) ta = some (.tup [.str "a"]) := upd_same
      have hpa := hp2.same sa
      have tap : ta ≠ p := hp2.ne na
      generalize upd H2 ta (.tup [.str "a"]) = Ha at *
      obtain ⟨its, ei⟩ : ∃ its : List V, its = [.str "abcdefghi", .str "a1", .str "", .bl true, .int (-1), .int 0, .int (10 ^ 40), .ref ta] := ⟨_, rfl⟩
      have s8 : Same Ha (upd Ha l8 (.lst its)) := same_new n8
      have e8 : (upd Ha l8 (.lst its)) l8 = some (.lst its) := upd_same
      have hp8 := hpa.same s8
      have l8p : l8 ≠ p := hpa.ne n8
      rw [ei] at s8 e8 hp8
      refine ⟨.ref p, rfl, p, 8, rfl, hp8, by decide, by decide, fun Hb g bb hpb g0 g1 => ?_⟩
      have eb := bb _ _ l8p e8
      obtain ⟨v, vi, va⟩ := at_in (xs := its) g0 (by rw [ei]; exact g1)
      rw [ei] at va
      have tv : Thing K Hb v ∧ v ≠ .ref p := by
        rw [ei] at vi
        simp only [List.mem_cons, List.not_mem_nil, or_false] at vi
        rcases vi with rfl | rfl | rfl | rfl | rfl | rfl | rfl | rfl
        · exact ⟨.str _ (by decide), nofun⟩
        · exact ⟨.str _ (by decide), nofun⟩
        · exact ⟨.str _ (by decide), nofun⟩
        · exact ⟨.bl _, nofun⟩
        · exact ⟨.int _, nofun⟩
        · exact ⟨.int _, nofun⟩
        · exact ⟨.int _, nofun⟩
        · exact ⟨.tup (bb _ _ tap (s8 _ _ ea)), fun z => tap (V.ref.inj z)⟩
      have ervb := pot_kind hp8 bb _ _ (.inl ⟨_, rfl⟩) (s8 _ _ (sa _ _ erv2))
      have b0b : But p H Hb := (b02.trans (Same.but (sa.trans s8))).trans bb
      refine ⟨l8, _, g, v, rfl, rfl, .inl (.inl eb), va, ?_⟩
      refine ⟨.ref rv, rfl, .int at_, rfl, at_, rfl, sl_any ervb fun H3 c1 s3 e1 => ?_⟩
      refine ⟨v, rfl, (by show 1 ≤ sizeLine; decide), fun c2 n2 => ?_⟩
      have s5 : Same H3 (upd H3 c2 (.tup [v])) := same_new n2
      have e2 : (upd H3 c2 (.tup [v])) c2 = some (.tup [v]) := upd_same
      generalize upd H3 c2 (.tup [v]) = H5 at *
      refine cat_any (s5 _ _ e1) e2 (by have := @cl none (some at_); show _ + 1 ≤ sizeLine; omega) fun H6 c3 s6 e3 => ?_
      refine ⟨.ref rv, rfl, .int at_, rfl, _, _, rfl, rfl, at_ + 1, rfl, ?_⟩
      refine sl_from (((s3.trans s5).trans s6) _ _ ervb) fun H7 c4 s7 e4 => ?_
      refine cat_any (s7 _ _ e3) e4 (by have h1 := @cl none (some at_); have h2 := @cl (some (at_ + 1)) none; rw [List.length_append]; show _ + 1 + _ ≤ sizeLine; omega) fun H9 c5 s9 e5 => ?_
      have sb9 : Same Hb H9 := (((s3.trans s5).trans s6).trans s7).trans s9
      have hp9 := hpb.same sb9
      refine q _ _ (b0b.trans (Same.but sb9)) hp9 (t3_tup e5 (pot_ne_tup hp9 e5) ?_ fun x hx => ?_)
      · have h1 := @cl none (some at_)
        have h2 := @cl (some (at_ + 1)) none
        rw [List.length_append, List.length_append]
        show _ + 1 + _ ≤ 1000
        omega
      · rcases (List.mem_append.mp hx : _ ∨ _) with hx | hx
        · rcases (List.mem_append.mp hx : _ ∨ _) with hx | hx
          · exact (fl1000 x hx).thing
          · rw [List.mem_singleton.mp hx]
            exact ⟨tv.1.same sb9, tv.2⟩
        · exact (fl1000 x hx).thing
    · refine ⟨.ref p, rfl, .ref rv, rfl, p, rv, xs, rfl, hp2, pot_ne_tup hp2 erv2, .inr (.inl (.inl erv2)), by omega, fun H3 l ys b3 hp3 nl lp el pm => ?_⟩
      refine ⟨l, ys, rfl, .inl ⟨.inl (.inl el), fun c nc => ?_⟩⟩
      refine q _ _ ((b02.trans b3).new nc) (hp3.new nc) (t3_tup upd_same (hp3.ne nc) (by rw [pm.length_eq]; omega) fun x hx => (flat x (pm.mem_iff.mp hx)).thing)
end
end K14
set_option Elab.async false
set_option linter.all false
set_option maxRecDepth 100000
namespace K14
open PySem PySem.Spec PyProof.Rows L2 Kx Kz Kc TL ClX
theorem Thing.lstOr {K : PySem.W.Frag} {H : Hp} {v : V} (t : Thing K H v) : (∃ a xs, v = .ref a ∧ H a = some (.lst xs)) ∨ ∃ u, TyX K H v u ∧ PySem.W.kitOne K u (.type "list") = some false := by
  cases t with
  | str z h => exact .inr ⟨_, .base (.str z), kit_ty (show kitB "str" "list" = some false by decide +kernel)⟩
  | non => exact .inr ⟨_, .base .non, kit_ty (show kitB "NoneType" "list" = some false by decide +kernel)⟩
  | bl b => exact .inr ⟨_, .base (.bl b), kit_ty (show kitB "bool" "list" = some false by decide +kernel)⟩
  | int i => exact .inr ⟨_, .base (.int i), kit_ty (show kitB "int" "list" = some false by decide +kernel)⟩
  | lst h => exact .inl ⟨_, _, rfl, h⟩
  | tup h => exact .inr ⟨_, .base (.tup h), kit_ty (show kitB "tuple" "list" = some false by decide +kernel)⟩
  | dct h => exact .inr ⟨_, .base (.dK h), kit_ty (show kitB "dict" "list" = some false by decide +kernel)⟩
theorem IsVer.back {K : PySem.W.Frag} {H H' : Hp} {rows : List (Str × Str)} {v : V} {b : Bool} (t : Thing K H v) (s : Same H H') (h : IsVer H' rows v b) : IsVer H rows v b := by
  rcases h with ⟨a, xs, e1, e2, e3⟩ | ⟨n, e⟩
  · rw [e1] at t
    cases t with
    | lst g =>
      rw [s _ _ g] at e2
      cases e2
    | dct g =>
      rw [s _ _ g] at e2
      cases e2
    | tup g =>
      rw [s _ _ g] at e2
      cases Option.some.inj e2
      exact .inl ⟨a, _, e1, g, e3⟩
  · exact .inr ⟨fun a xs e1 e2 => n a xs e1 (s _ _ e2), e⟩
theorem T2.two {K : PySem.W.Frag} {H : Hp} {p : Addr} {v : V} (t : T2 K H p v) : Thing2 K H v :=
  ⟨t.th, fun a xs e h => ⟨(t.it a xs e h).1, fun x hx => ((t.it a xs e h).2 x hx).1⟩⟩
theorem ver_flat {rows : List (Str × Str)} {xs : List V} (h : VerOk rows xs) : ∀ x ∈ xs, FlatX x := fun x hx => by
  obtain ⟨j, at_j⟩ := List.mem_iff_getElem?.mp hx
  have lj : j < rows.length := by
    rw [← h.1]
    exact (List.getElem?_eq_some_iff.mp at_j).1
  have vb := h.2 j rows[j] x (List.getElem?_eq_getElem lj) at_j
  unfold valB at vb
  split at vb
  · cases x with
    | int i => exact .inl ⟨i, rfl⟩
    | _ => cases vb
  · cases x with
    | str z => exact .inr ⟨z, rfl, word_len vb⟩
    | _ => cases vb
theorem ver_true {rows : List (Str × Str)} {xs : List V} (h : VerOk rows xs) : verL rows xs = true := by
  unfold verL
  rw [decide_eq_true h.1, Bool.true_and, List.all_eq_true]
  rintro ⟨r, x⟩ hm
  obtain ⟨j, hj⟩ := List.mem_iff_getElem?.mp hm
  rw [List.getElem?_zip_eq_some] at hj
  exact h.2 j r x hj.1 hj.2
/-- what stands while the odd things are judged -/
structure Here (C p l x v0 : Addr) (ts : List Addr) (rows : List (Str × Str)) (xs : List V) (H : Hp) : Prop where
  hp : Pot H p
  sc : SchemaAt C H x rows
  el : H l = some (.lst (ts.map V.ref))
  rw_ : RowsAt H ts rows
  ev : H v0 = some (.tup xs)
theorem Here.but {C p l x v0 : Addr} {ts : List Addr} {rows : List (Str × Str)} {xs : List V} {H H' : Hp} (h : Here C p l x v0 ts rows xs H) (lp : l ≠ p) (b : But p H H') (hp' : Pot H' p) : Here C p l x v0 ts rows xs H' :=
  ⟨hp', h.sc.but h.hp b, b _ _ lp h.el, h.rw_.pot h.hp b, pot_kind h.hp b _ _ (.inl ⟨_, rfl⟩) h.ev⟩
theorem Here.same {C p l x v0 : Addr} {ts : List Addr} {rows : List (Str × Str)} {xs : List V} {H H' : Hp} (h : Here C p l x v0 ts rows xs H) (b : Same H H') : Here C p l x v0 ts rows xs H' :=
  ⟨h.hp.same b, h.sc.same b, b _ _ h.el, h.rw_.same b, b _ _ h.ev⟩
theorem call_reprB {X : Cx} : CallR X (.builtin "repr") (fun xs H Q => ∃ b : Bool, xs = [.bl b] ∧ Q (.str (if b then "True" else "False")) H) := by
  intro pins s σ H xs us Q I rel want
  obtain ⟨b, rfl, q⟩ := want
  obtain ⟨u, rfl, ru⟩ := vals1 rel
  cases (show u = Value.bool b from ru)
  exact PySem.P.repr_of_bool ⟨.str _, H, I.tok _, ⟨_, rfl⟩, q⟩
theorem vals_take1 {vs : List V} {us : List Value} (r : Vals vs us) : Vals (vs.take 1) (us.take 1) := by
  cases r with
  | nil => exact .nil
  | cons a b => exact .cons a .nil
theorem kbVer {K : PySem.W.Frag} {f : Addr} {fd : FuncData} (F : Fun K "is_version" "is_version" sVersion f fd) : KBinds K fd ["schema", "thing"] ["thing"] (fun us ws => us ++ ws.take 1) (fun vs zs => vs ++ zs.take 1) := by
  obtain ⟨_, _, _, _, _, _, _, _, _, rfl, _, _⟩ := F.ex
  refine ⟨fun s us ws _ hl => ?_, fun r1 r2 => r1.append (vals_take1 r2)⟩
  match us, ws, hl with
  | [_], _ :: _, _ => exact .of_eq rfl
  | [_, _], [], _ => exact .of_eq rfl
  | [], ws, hl => exact absurd (show (ws.take 1).length = 2 from hl) (by rw [List.length_take]; omega)
  | [_], [], hl => exact absurd (show 1 = 2 from hl) (by decide)
section
variable {K : PySem.W.Frag} {mg : Str → Option Value} {P : Program} {base : Heap} {w : World}
def spLaw (K : PySem.W.Frag) : Sp := fun vs H Q _ => ∃ (a : Addr) (ns : List Int), vs = [.ref a] ∧ SqL K H a (ns.map V.int) ∧ ns.length ≤ 63 ∧ ∀ H', Q (.bl true) H'
theorem ok_law {f C fI fPt fSo fRs fD fOd fV fIr : Addr} {fd fdI fdPt fdSo fdRs fdD fdOd fdV fdIr : FuncData} (F : Fun K "law" "law" sLaw f fd) (S : Sx K mg C) (M : Mk K C fI) (bI : Binds K fdI ["self", "fields"] []) (T : Tx mg)
    (GI : FnOk P w K mg base CX0 4 fI fdI ["self", "fields"] (spInit C))
    (DPt : DefAt K mg "_law_pot" sPot ["_law_script", "_law_k"] fPt fdPt) (GPt : FnOk P w K mg base CX0 5 fPt fdPt ["_law_script", "_law_k"] (spPot K))
    (DSo : DefAt K mg "_law_some_fields" sSome ["_law_pot_here"] fSo fdSo) (GSo : FnOk P w K mg base CX0 5 fSo fdSo ["_law_pot_here"] spSome)
    (DRs : DefAt K mg "_law_rows" sRows ["_law_pot_here", "_law_fields_here", "_law_most", "_law_far"] fRs fdRs) (GRs : FnOk P w K mg base CX0 5 fRs fdRs ["_law_pot_here", "_law_fields_here", "_law_most", "_law_far"] (spRows K))
    (DD : DefAt K mg "_law_draw" sDraw ["_law_pot_here", "_law_many"] fD fdD) (GD : FnOk P w K mg base CX0 5 fD fdD ["_law_pot_here", "_law_many"] spDraw)
    (DOd : DefAt K mg "_law_odd" sOdd ["_law_pot_here", "_law_row_here"] fOd fdOd) (GOd : FnOk P w K mg base CX0 5 fOd fdOd ["_law_pot_here", "_law_row_here"] (spOdd K))
    (DV : DefAt K mg "is_version" sVersion ["schema", "thing"] fV fdV) (GV : FnOk P w K mg base CX0 5 fV fdV ["schema", "thing"] (spVersion K C))
    (DIr : DefAt K mg "_law_is_row" sIsRow ["_law_fields_here", "_law_item"] fIr fdIr) (GIr : FnOk P w K mg base CX0 5 fIr fdIr ["_law_fields_here", "_law_item"] (spIsRow K)) :
    FnOk P w K mg base CX0 6 f fd ["_law_script"] (spLaw K) := by
  have kV := kbVer DV.F
  refine F.ok scLaw (fun vs H Q E h => ?_) (fun cdv A outer s H vs Q E hr h => ?_)
  · obtain ⟨a, ns, rfl, _⟩ := h
    rfl
  · obtain ⟨a, ns, rfl, hS, hlen, q⟩ := h
    refine ⟨_, pss_cons (ps_for PassesOwn.never rfl (pi_range1 (by rfl) T.rng (pa_cons (pe_callB (call_max2 rfl) (by rfl) T.mx (by decide +kernel) (pa_cons pe_int (pa_cons
          (pe_callB (call_min2 rfl) (by rfl) T.mn (by decide +kernel) (pa_cons pe_int (pa_cons (pe_callB call_len_seq (by rfl) T.len PySem.boot_len (pa_cons (pv 0) pa_nil)) pa_nil))) pa_nil))) pa_nil))
        (pg_name (i := 1) scLaw.nd rfl (.inl rfl))
        (pss_cons (ps_set (i := 2) scLaw.nd rfl (.inl rfl) (pe_call GPt hr (by rfl) DPt.g DPt.F.kp DPt.b .nil pass0 (pa_cons (pv 0) (pa_cons (pv 1) pa_nil))))
        (pss_cons (ps_set (i := 3) scLaw.nd rfl (.inl rfl) (pe_call GSo hr (by rfl) DSo.g DSo.F.kp DSo.b .nil pass0 (pa_cons (pv 2) pa_nil)))
        (pss_cons (ps_par (i := 4) (j := 5) (by rfl) scLaw.nd rfl rfl (by decide) rfl rfl (pa_cons (pe_make M GI hr (by rfl) S.mgC bI .nil pass0 (pa_cons (pv 3) pa_nil))
          (pa_cons (pe_ix ix_list (pe_call GRs hr (by rfl) DRs.g DRs.F.kp DRs.b .nil pass0 (pa_cons (pv 2) (pa_cons (pv 3) (pa_cons pe_int (pa_cons (pe_call GD hr (by rfl) DD.g DD.F.kp DD.b .nil pass0 (pa_cons (pv 2) (pa_cons pe_int pa_nil))) pa_nil))))) pe_int (fun _ _ => rfl)) pa_nil)) (by rfl))
        (pss_cons (ps_if (pt_cmpR op_notBl (pe_call GV hr (by rfl) DV.g DV.F.kp DV.b .nil pass0 (pa_cons (pv 4) (pa_cons (pv 5) pa_nil))) pe_bl (nomark _)) (pss_one (ps_ret pe_bl)) pss_nil)
        (pss_one (ps_for PassesOwn.never rfl (pi_range1 (by rfl) T.rng (pa_cons pe_int pa_nil)) (pg_name (i := 6) scLaw.nd rfl (.inl rfl))
          (pss_cons (ps_set (i := 7) scLaw.nd rfl (.inl rfl) (pe_call GOd hr (by rfl) DOd.g DOd.F.kp DOd.b .nil pass0 (pa_cons (pv 2) (pa_cons (pv 5) pa_nil))))
          (pss_cons (ps_set (i := 8) scLaw.nd rfl (.inl rfl) (pe_ifExp (pt_val (pe_callB call_isi (by rfl) T.isi (by decide +kernel) (pa_cons (pv 7) (pa_cons (pe_bltn (v := .ty "list") (by rfl) T.lst (by decide +kernel) rfl) pa_nil)))) (pv 7) (pe_lst (pa_cons (pv 7) pa_nil))))
          (pss_one (ps_for PassesOwn.never rfl (pi_list (pe_op op_cat (pv 8) (pe_lst (pa_cons (pv 7) pa_nil)))) (pg_name (i := 9) scLaw.nd rfl (.inl rfl))
            (pss_one (ps_if (pt_cmpR op_ne
                (pe_callB call_reprB (by rfl) T.rpr (by decide +kernel) (pa_cons (pe_callK GV hr (by rfl) DV.g DV.F.kp kV pass0 (pa_cons (pv 4) pa_nil) (pk_cons (pv 9) pk_nil)) pa_nil))
                (pe_callB call_reprB (by rfl) T.rpr (by decide +kernel) (pa_cons (pe_call GIr hr (by rfl) DIr.g DIr.F.kp DIr.b .nil pass0 (pa_cons (pv 3) (pa_cons (pv 9) pa_nil))) pa_nil)) (nomark _))
              (pss_one (ps_ret pe_bl)) pss_nil)))))))))))))
      (pss_one (ps_ret pe_bl)), ?_⟩
    -- how many cells
    refine ⟨.ref a, rfl, a, _, rfl, .inl hS, 6, _, rfl, 1, _, rfl, ?_⟩
    have en : (ns.map V.int).length = ns.length := List.length_map ..
    rw [en]
    obtain ⟨e, he⟩ : ∃ e : Int, e = (if (if (ns.length : Int) < 6 then (ns.length : Int) else 6) > 1 then (if (ns.length : Int) < 6 then (ns.length : Int) else 6) else 1) := ⟨_, rfl⟩
    have e1 : e ≤ 6 := by
      rw [he]
      split <;> split <;> omega
    have e0 : 0 ≤ e := by
      rw [he]
      split <;> split <;> omega
    rw [← he]
    refine ⟨e, rfl, by omega, by omega, ?_⟩
    refine for_it (walk_range (lo := 0) (n := e.toNat)) (fun i σ H1 => ∃ y1 y2 y3 y4 y5 y6 y7 y8 y9, σ = [some (.ref a), y1, y2, y3, y4, y5, y6, y7, y8, y9] ∧ Same H H1)
      ⟨none, none, none, none, none, none, none, none, none, rfl, Same.refl H⟩ (fun _ _ _ _ _ => trivial) (fun i x σ H1 H1' hi pv y => ?_) (fun σ H1 pv => ?_)
    · obtain ⟨y1, y2, y3, y4, y5, y6, y7, y8, y9, rfl, sm⟩ := pv
      obtain ⟨rfl, rfl⟩ := y
      refine ⟨.ref a, rfl, .int (0 + i), rfl, a, ns, i, by rw [Int.zero_add]; rfl, sm.seq hS, by omega, fun H2 p s2 np hp => ?_⟩
      have np0 : H p = none := none_of sm np
      have s02 := sm.trans s2
      refine ⟨.ref p, rfl, p, rfl, hp, fun H3 l ts rows na nb b3 hp3 nl lp el pts rat rok na4 nb4 rne => ?_⟩
      have rlen := rok.len
      refine ⟨.ref l, rfl, fun x dx nx ndx nex => ?_⟩
      have sm3 : Same H3 (upd (upd H3 dx (.own x)) x (.ins C dx [])) := fun b o h => by
        rw [upd_ne (ne_of_none h nx), upd_ne (ne_of_none h ndx)]
        exact h
      have ax : (upd (upd H3 dx (.own x)) x (.ins C dx [])) x = some (.ins C dx []) := upd_same
      generalize upd (upd H3 dx (.own x)) x (.ins C dx []) = H3' at *
      refine ⟨x, l, dx, ts, rows, na, nb, rfl, ax, sm3 _ _ el, rat.same sm3, rok, by omega, nb4, rne, fun H4 k4 sc4 => ⟨rfl, ?_⟩⟩
      have s34 : Same H3 H4 := fun b o h => k4 b o (ne_of_none h nx) (sm3 _ _ h)
      have hp4 := hp3.same s34
      refine ⟨.ref p, rfl, .ref l, rfl, .ref p, rfl, p, 2, rfl, hp4, by decide, by decide, fun H5 far b5 hp5 f0 f1 => ?_⟩
      have el5 := b5 _ _ lp (s34 _ _ el)
      have rat5 := (rat.same s34).pot hp4 b5
      refine ⟨p, l, ts, rows, 1, far, rfl, hp5, lp, .inl (.inl el5), rat5, by omega, by decide, by decide, fun H6 vl vs b6 hp6 nvl vlp evl vne va => ?_⟩
      obtain ⟨v0, vr, rfl⟩ : ∃ v0 vr, vs = v0 :: vr := by
        cases vs with
        | nil => exact absurd rfl vne
        | cons v0 vr => exact ⟨v0, vr, rfl⟩
      obtain ⟨nv0, xs0, ev0, vo⟩ := va v0 List.mem_cons_self
      refine ⟨vl, _, 0, .ref v0, rfl, rfl, .inl (.inl evl), atI_nat (j := 0) rfl, _, _, rfl, ?_⟩
      have h6 : Here C p l x v0 ts rows xs0 H6 := ⟨hp6, (sc4.but hp4 b5).but hp5 b6, b6 _ _ lp el5, rat5.pot hp5 b6, ev0⟩
      have s06 : Same H H6 := same_but s02 np0 ((b3.trans (Same.but s34)).trans (b5.trans b6))
      have fl := ver_flat vo
      have xl : xs0.length = rows.length := vo.1
      have tw : Thing2 K H6 (.ref v0) := (t2_tup (K := K) ev0 (pot_ne_tup hp6 ev0) (by omega) fun x hx => (fl x hx).thing).two
      refine ⟨.ref x, rfl, .ref v0, rfl, x, .ref v0, rows, rfl, h6.sc, by omega, tw, fun H7 b s7 iv => ?_⟩
      have bt : b = true := iv.one (.inl ⟨v0, xs0, rfl, ev0, (ver_true vo).symm⟩)
      subst bt
      refine ⟨true, true, rfl, rfl, _, rfl, iteF ?_⟩
      have h7 := h6.same s7
      have s07 := s06.trans s7
      refine ⟨10, rfl, by decide, by decide, ?_⟩
      refine for_it (walk_range (lo := 0) (n := 10)) (fun j σ Hx => ∃ y6 y7 y8 y9, σ = [some (.ref a), some (.int (0 + i)), some (.ref p), some (.ref l), some (.ref x), some (.ref v0), y6, y7, y8, y9] ∧ Same H Hx ∧ Here C p l x v0 ts rows xs0 Hx)
        ⟨y6, y7, y8, y9, rfl, s07, h7⟩ (fun _ _ _ _ _ => trivial) (fun j z σ Hx Hx' hj pv y => ?_) (fun σ Hx pv => ?_)
      · obtain ⟨z6, z7, z8, z9, rfl, sx, hx⟩ := pv
        obtain ⟨rfl, rfl⟩ := y
        refine ⟨.ref p, rfl, .ref v0, rfl, p, v0, xs0, rfl, hx.hp, hx.ev, fl, by have := List.length_pos_iff.mpr rne; omega, by omega, fun Ha v ba hpa t3 => ?_⟩
        have ha := hx.but lp ba hpa
        have s0a : Same H Ha := same_but sx np0 ba
        -- how the list of things is walked
        have walk : ∀ (Hb : Hp) (so : Addr) (its : List V), Same Ha Hb → Hb so = some (.lst its) → its.length ≤ 1000 → (∀ u ∈ its, T2 K Hb p u) → ∀ n1 : Addr, Hb n1 = none → ∀ n2 : Addr, (upd Hb n1 (.lst [v])) n2 = none →
            (upd (upd Hb n1 (.lst [v])) n2 (.lst (its ++ [v]))) n2 = some (.lst (its ++ [v])) ∧ ∀ u ∈ its ++ [v], T2 K (upd (upd Hb n1 (.lst [v])) n2 (.lst (its ++ [v]))) p u := by
          intro Hb so its sb es il it n1 h1 n2 h2
          have sbb : Same Hb (upd (upd Hb n1 (.lst [v])) n2 (.lst (its ++ [v]))) := (same_new h1).trans (same_new h2)
          refine ⟨upd_same, fun u hu => ?_⟩
          rcases List.mem_append.mp hu with h | h
          · exact (it u h).same sbb
          · rw [List.mem_singleton.mp h]
            exact (t3.t2.same sb).same sbb
        have szl : (2000 : Nat) < sizeLine := by decide
        rcases Thing.lstOr t3.t2.th with ⟨so, its, rfl, es⟩ | ⟨ut, ty, ko⟩
        · obtain ⟨il, it⟩ := t3.ls so its rfl es
          obtain ⟨Hb, eHb⟩ : ∃ Hb, Hb = Ha := ⟨_, rfl⟩
          have sb : Same Ha Hb := by rw [eHb]; exact Same.refl Ha
          refine ⟨.ref so, rfl, .ref so, .ty "list", .type "list", .type "list", true, rfl, .ty "list", .base (.lst es), kit_ty (by decide +kernel), true, rfl, iteT ⟨.ref so, rfl, ?_⟩⟩
          rw [← eHb] at es it
          rw [← eHb]
          refine ⟨.ref so, rfl, .ref so, rfl, (by show 1 ≤ sizeLine; decide), fun n1 h1 => ?_⟩
          have son1 : so ≠ n1 := ne_of_none es h1
          refine ⟨so, n1, its, [.ref so], rfl, rfl, by rw [upd_ne son1]; exact es, upd_same, by show its.length + 1 ≤ sizeLine; omega, fun n2 h2 => ?_⟩
          obtain ⟨en2, all2⟩ := walk Hb so its sb es il it n1 h1 n2 h2
          have sac : Same Ha (upd (upd Hb n1 (.lst [.ref so])) n2 (.lst (its ++ [.ref so]))) := (sb.trans (same_new h1)).trans (same_new h2)
          generalize upd (upd Hb n1 (.lst [.ref so])) n2 (.lst (its ++ [.ref so])) = Hc at *
          have hc := ha.same sac
          refine ⟨n2, rfl, ⟨_, .inl (.inl en2)⟩, ?_⟩
          refine for_it (walk_list (K := K) (a := n2) (xs := its ++ [.ref so])) (fun m σ Hd => ∃ y9, σ = [some (.ref a), some (.int (0 + i)), some (.ref p), some (.ref l), some (.ref x), some (.ref v0), some (.int (0 + j)), some (.ref so), some (.ref so), y9] ∧ Same Hc Hd)
            ⟨z9, rfl, Same.refl Hc⟩ (fun m σ Hd _ pv => ?_) (fun m u σ Hd Hd' hm pv y => ?_) (fun σ Hd pv => ?_)
          · obtain ⟨_, _, sd⟩ := pv
            exact .inl (.inl (sd _ _ en2))
          · obtain ⟨y9, rfl, sd⟩ := pv
            obtain ⟨rfl, hu⟩ := y
            have tu := (all2 u (List.mem_of_getElem? hu)).same sd
            have hd := hc.same sd
            refine ⟨.ref x, rfl, u, rfl, x, u, rows, rfl, hd.sc, by omega, tu.two, fun He b se iv => ?_⟩
            refine ⟨b, rfl, ?_⟩
            have he' := hd.same se
            refine ⟨.ref l, rfl, u, rfl, l, ts, u, rows, rfl, .inl (.inl he'.el), he'.rw_, by omega, (tu.same se).two, fun Hf b' sf iv' => ?_⟩
            have bb : b' = b := (iv'.back tu.th se).one iv
            subst bb
            refine ⟨b', rfl, rfl, _, rfl, ?_⟩
            rw [decide_eq_true rfl]
            exact iteF ⟨_, rfl, (sd.trans se).trans sf⟩
          · obtain ⟨y9, rfl, sd⟩ := pv
            exact ⟨_, _, _, _, rfl, (s0a.trans sac).trans sd, hc.same sd⟩
        · refine ⟨v, rfl, v, .ty "list", ut, .type "list", false, rfl, .ty "list", ty, ko, false, rfl, iteF ⟨v, rfl, (by show 1 ≤ sizeLine; decide), fun so nso => ?_⟩⟩
          obtain ⟨its, ei⟩ : ∃ its : List V, its = [v] := ⟨_, rfl⟩
          obtain ⟨Hb, eHb⟩ : ∃ Hb, Hb = upd Ha so (.lst [v]) := ⟨_, rfl⟩
          have sb : Same Ha Hb := by rw [eHb]; exact same_new nso
          have es : Hb so = some (.lst its) := by rw [eHb, ei]; exact upd_same
          have il : its.length ≤ 1000 := by rw [ei]; show 1 ≤ 1000; decide
          have it : ∀ u ∈ its, T2 K Hb p u := fun u hu => by
            rw [ei] at hu
            rw [List.mem_singleton.mp hu]
            exact t3.t2.same sb
          rw [← eHb]
          refine ⟨.ref so, rfl, v, rfl, (by show 1 ≤ sizeLine; decide), fun n1 h1 => ?_⟩
          have son1 : so ≠ n1 := ne_of_none es h1
          refine ⟨so, n1, its, [v], rfl, rfl, by rw [upd_ne son1]; exact es, upd_same, by show its.length + 1 ≤ sizeLine; omega, fun n2 h2 => ?_⟩
          obtain ⟨en2, all2⟩ := walk Hb so its sb es il it n1 h1 n2 h2
          have sac : Same Ha (upd (upd Hb n1 (.lst [v])) n2 (.lst (its ++ [v]))) := (sb.trans (same_new h1)).trans (same_new h2)
          generalize upd (upd Hb n1 (.lst [v])) n2 (.lst (its ++ [v])) = Hc at *
          have hc := ha.same sac
          refine ⟨n2, rfl, ⟨_, .inl (.inl en2)⟩, ?_⟩
          refine for_it (walk_list (K := K) (a := n2) (xs := its ++ [v])) (fun m σ Hd => ∃ y9, σ = [some (.ref a), some (.int (0 + i)), some (.ref p), some (.ref l), some (.ref x), some (.ref v0), some (.int (0 + j)), some v, some (.ref so), y9] ∧ Same Hc Hd)
            ⟨z9, rfl, Same.refl Hc⟩ (fun m σ Hd _ pv => ?_) (fun m u σ Hd Hd' hm pv y => ?_) (fun σ Hd pv => ?_)
          · obtain ⟨_, _, sd⟩ := pv
            exact .inl (.inl (sd _ _ en2))
          · obtain ⟨y9, rfl, sd⟩ := pv
            obtain ⟨rfl, hu⟩ := y
            have tu := (all2 u (List.mem_of_getElem? hu)).same sd
            have hd := hc.same sd
            refine ⟨.ref x, rfl, u, rfl, x, u, rows, rfl, hd.sc, by omega, tu.two, fun He b se iv => ?_⟩
            refine ⟨b, rfl, ?_⟩
            have he' := hd.same se
            refine ⟨.ref l, rfl, u, rfl, l, ts, u, rows, rfl, .inl (.inl he'.el), he'.rw_, by omega, (tu.same se).two, fun Hf b' sf iv' => ?_⟩
            have bb : b' = b := (iv'.back tu.th se).one iv
            subst bb
            refine ⟨b', rfl, rfl, _, rfl, ?_⟩
            rw [decide_eq_true rfl]
            exact iteF ⟨_, rfl, (sd.trans se).trans sf⟩
          · obtain ⟨y9, rfl, sd⟩ := pv
            exact ⟨_, _, _, _, rfl, (s0a.trans sac).trans sd, hc.same sd⟩
      · obtain ⟨z6, z7, z8, z9, rfl, sx, hx⟩ := pv
        exact ⟨_, _, _, _, _, _, _, _, _, rfl, sx⟩
    · obtain ⟨y1, y2, y3, y4, y5, y6, y7, y8, y9, rfl, sm⟩ := pv
      exact q _
end
end K14
set_option Elab.async false
set_option linter.all false
set_option maxRecDepth 100000
namespace K14
open PySem PySem.Spec PyProof.Rows L2 Kx Kz Kc TL ClX
/-- a def as it stands behind the top -/
structure Left (K : PySem.W.Frag) (nm qual : Str) (st : Stmt) (f : Addr) (fd : FuncData) : Prop where
  ex : ∃ (oc : Value) (od an : Option Addr) (sl : Array (Option Value)) (kV dc pm cd ct : Value), fd = PySem.W.fnOf nm qual (defArgs st) (defBody st) (defScope st) .none kV dc pm an cd ct ∧
    K.lookup f = some ⟨oc, od, .func (PySem.W.fnOf nm qual (defArgs st) (defBody st) (defScope st) .none kV dc pm an cd ct), sl⟩ ∧ PySem.W.codeIn K cd qual = true
  stays : PySem.W.keepIn K (.ref f) = true
theorem Left.fn {K : PySem.W.Frag} {nm qual : Str} {st : Stmt} {f : Addr} {fd : FuncData} (h : Left K nm qual st f fd) : Fun K nm qual st f fd := by
  obtain ⟨oc, od, an, sl, kV, dc, pm, cd, ct, rfl, l, c⟩ := h.ex
  exact fun_mk l c h.stays
theorem all_mk {l : PySem.W.OpenLaw} {w : World} {K : PySem.W.Frag} {h : Heap} {mg : Str → Option Value} {fa C kt : Addr} (X : K.In h) (G : h.Ns mainGlobals mg) (hfa : mg "law" = some (.ref fa))
    {fN fWh fFi fPr fVa fVe fPt fD fMi fWo fWs fFl fSt fPl fRo fRs fAn fIi fIw fIr fSo fOd fLa fIn fLe fFg : Addr} {odN anN odWh anWh odFi anFi odPr anPr odVa anVa odVe anVe odPt anPt odD anD odMi anMi odWo anWo odWs anWs odFl anFl odSt anSt odPl anPl odRo anRo odRs anRs odAn anAn odIi anIi odIw anIw odIr anIr odSo anSo odOd anOd odLa anLa odIn anIn odLe anLe odFg anFg ddk : Option Addr} {slN slWh slFi slPr slVa slVe slPt slD slMi slWo slWs slFl slSt slPl slRo slRs slAn slIi slIw slIr slSo slOd slLa slIn slLe slFg slk : Array (Option Value)} {nk : Nat}
    {ocN kVN dcN pmN cdN ctN ocWh kVWh dcWh pmWh cdWh ctWh ocFi kVFi dcFi pmFi cdFi ctFi ocPr kVPr dcPr pmPr cdPr ctPr ocVa kVVa dcVa pmVa cdVa ctVa ocVe kVVe dcVe pmVe cdVe ctVe ocPt kVPt dcPt pmPt cdPt ctPt ocD kVD dcD pmD cdD ctD ocMi kVMi dcMi pmMi cdMi ctMi ocWo kVWo dcWo pmWo cdWo ctWo ocWs kVWs dcWs pmWs cdWs ctWs ocFl kVFl dcFl pmFl cdFl ctFl ocSt kVSt dcSt pmSt cdSt ctSt ocPl kVPl dcPl pmPl cdPl ctPl ocRo kVRo dcRo pmRo cdRo ctRo ocRs kVRs dcRs pmRs cdRs ctRs ocAn kVAn dcAn pmAn cdAn ctAn ocIi kVIi dcIi pmIi cdIi ctIi ocIw kVIw dcIw pmIw cdIw ctIw ocIr kVIr dcIr pmIr cdIr ctIr ocSo kVSo dcSo pmSo cdSo ctSo ocOd kVOd dcOd pmOd cdOd ctOd ocLa kVLa dcLa pmLa cdLa ctLa ocIn kVIn dcIn pmIn cdIn ctIn ocLe kVLe dcLe pmLe cdLe ctLe ocFg kVFg dcFg pmFg cdFg ctFg : Value} {t1 t2 t3 tL tC q1 q2 q3 : Tok}
    (aN : PySem.W.nsIn K mainGlobals "is_name" = some (some (.ref fN)))
    (aWh : PySem.W.nsIn K mainGlobals "is_whole_number" = some (some (.ref fWh)))
    (aFi : PySem.W.nsIn K mainGlobals "is_field" = some (some (.ref fFi)))
    (aPr : PySem.W.nsIn K mainGlobals "field_problem" = some (some (.ref fPr)))
    (aVa : PySem.W.nsIn K mainGlobals "is_value" = some (some (.ref fVa)))
    (aVe : PySem.W.nsIn K mainGlobals "is_version" = some (some (.ref fVe)))
    (aPt : PySem.W.nsIn K mainGlobals "_law_pot" = some (some (.ref fPt)))
    (aD : PySem.W.nsIn K mainGlobals "_law_draw" = some (some (.ref fD)))
    (aMi : PySem.W.nsIn K mainGlobals "_law_mixed" = some (some (.ref fMi)))
    (aWo : PySem.W.nsIn K mainGlobals "_law_word" = some (some (.ref fWo)))
    (aWs : PySem.W.nsIn K mainGlobals "_law_words" = some (some (.ref fWs)))
    (aFl : PySem.W.nsIn K mainGlobals "_law_fields" = some (some (.ref fFl)))
    (aSt : PySem.W.nsIn K mainGlobals "_law_step" = some (some (.ref fSt)))
    (aPl : PySem.W.nsIn K mainGlobals "_law_plan" = some (some (.ref fPl)))
    (aRo : PySem.W.nsIn K mainGlobals "_law_row" = some (some (.ref fRo)))
    (aRs : PySem.W.nsIn K mainGlobals "_law_rows" = some (some (.ref fRs)))
    (aAn : PySem.W.nsIn K mainGlobals "_law_any_thing" = some (some (.ref fAn)))
    (aIi : PySem.W.nsIn K mainGlobals "_law_is_int" = some (some (.ref fIi)))
    (aIw : PySem.W.nsIn K mainGlobals "_law_is_word" = some (some (.ref fIw)))
    (aIr : PySem.W.nsIn K mainGlobals "_law_is_row" = some (some (.ref fIr)))
    (aSo : PySem.W.nsIn K mainGlobals "_law_some_fields" = some (some (.ref fSo)))
    (aOd : PySem.W.nsIn K mainGlobals "_law_odd" = some (some (.ref fOd)))
    (aLa : PySem.W.nsIn K mainGlobals "law" = some (some (.ref fLa)))
    (aC : PySem.W.nsIn K mainGlobals "Schema" = some (some (.ref C)))
    (aIn : PySem.W.findIn K (.ref C) "__init__" = some (some (.ref fIn)))
    (aLe : PySem.W.findIn K (.ref C) "__len__" = some (some (.ref fLe)))
    (aFg : PySem.W.findIn K (.ref C) "fields" = some (some (.ref fFg)))
    (lN : K.lookup fN = some ⟨ocN, odN, .func (PySem.W.fnOf "is_name" "is_name" (defArgs sName) (defBody sName) (defScope sName) .none kVN dcN pmN anN cdN ctN), slN⟩)
    (cN : PySem.W.codeIn K cdN "is_name" = true)
    (kN : PySem.W.keepIn K (.ref fN) = true)
    (lWh : K.lookup fWh = some ⟨ocWh, odWh, .func (PySem.W.fnOf "is_whole_number" "is_whole_number" (defArgs sWhole) (defBody sWhole) (defScope sWhole) .none kVWh dcWh pmWh anWh cdWh ctWh), slWh⟩)
    (cWh : PySem.W.codeIn K cdWh "is_whole_number" = true)
    (kWh : PySem.W.keepIn K (.ref fWh) = true)
    (lFi : K.lookup fFi = some ⟨ocFi, odFi, .func (PySem.W.fnOf "is_field" "is_field" (defArgs sField) (defBody sField) (defScope sField) .none kVFi dcFi pmFi anFi cdFi ctFi), slFi⟩)
    (cFi : PySem.W.codeIn K cdFi "is_field" = true)
    (kFi : PySem.W.keepIn K (.ref fFi) = true)
    (lPr : K.lookup fPr = some ⟨ocPr, odPr, .func (PySem.W.fnOf "field_problem" "field_problem" (defArgs sProb) (defBody sProb) (defScope sProb) .none kVPr dcPr pmPr anPr cdPr ctPr), slPr⟩)
    (cPr : PySem.W.codeIn K cdPr "field_problem" = true)
    (kPr : PySem.W.keepIn K (.ref fPr) = true)
    (lVa : K.lookup fVa = some ⟨ocVa, odVa, .func (PySem.W.fnOf "is_value" "is_value" (defArgs sValue) (defBody sValue) (defScope sValue) .none kVVa dcVa pmVa anVa cdVa ctVa), slVa⟩)
    (cVa : PySem.W.codeIn K cdVa "is_value" = true)
    (kVa : PySem.W.keepIn K (.ref fVa) = true)
    (lVe : K.lookup fVe = some ⟨ocVe, odVe, .func (PySem.W.fnOf "is_version" "is_version" (defArgs sVersion) (defBody sVersion) (defScope sVersion) .none kVVe dcVe pmVe anVe cdVe ctVe), slVe⟩)
    (cVe : PySem.W.codeIn K cdVe "is_version" = true)
    (kVe : PySem.W.keepIn K (.ref fVe) = true)
    (lPt : K.lookup fPt = some ⟨ocPt, odPt, .func (PySem.W.fnOf "_law_pot" "_law_pot" (defArgs sPot) (defBody sPot) (defScope sPot) .none kVPt dcPt pmPt anPt cdPt ctPt), slPt⟩)
    (cPt : PySem.W.codeIn K cdPt "_law_pot" = true)
    (kPt : PySem.W.keepIn K (.ref fPt) = true)
    (lD : K.lookup fD = some ⟨ocD, odD, .func (PySem.W.fnOf "_law_draw" "_law_draw" (defArgs sDraw) (defBody sDraw) (defScope sDraw) .none kVD dcD pmD anD cdD ctD), slD⟩)
    (cD : PySem.W.codeIn K cdD "_law_draw" = true)
    (kD : PySem.W.keepIn K (.ref fD) = true)
    (lMi : K.lookup fMi = some ⟨ocMi, odMi, .func (PySem.W.fnOf "_law_mixed" "_law_mixed" (defArgs sMixed) (defBody sMixed) (defScope sMixed) .none kVMi dcMi pmMi anMi cdMi ctMi), slMi⟩)
    (cMi : PySem.W.codeIn K cdMi "_law_mixed" = true)
    (kMi : PySem.W.keepIn K (.ref fMi) = true)
    (lWo : K.lookup fWo = some ⟨ocWo, odWo, .func (PySem.W.fnOf "_law_word" "_law_word" (defArgs sWord) (defBody sWord) (defScope sWord) .none kVWo dcWo pmWo anWo cdWo ctWo), slWo⟩)
    (cWo : PySem.W.codeIn K cdWo "_law_word" = true)
    (kWo : PySem.W.keepIn K (.ref fWo) = true)
    (lWs : K.lookup fWs = some ⟨ocWs, odWs, .func (PySem.W.fnOf "_law_words" "_law_words" (defArgs sWords) (defBody sWords) (defScope sWords) .none kVWs dcWs pmWs anWs cdWs ctWs), slWs⟩)
    (cWs : PySem.W.codeIn K cdWs "_law_words" = true)
    (kWs : PySem.W.keepIn K (.ref fWs) = true)
    (lFl : K.lookup fFl = some ⟨ocFl, odFl, .func (PySem.W.fnOf "_law_fields" "_law_fields" (defArgs sFields) (defBody sFields) (defScope sFields) .none kVFl dcFl pmFl anFl cdFl ctFl), slFl⟩)
    (cFl : PySem.W.codeIn K cdFl "_law_fields" = true)
    (kFl : PySem.W.keepIn K (.ref fFl) = true)
    (lSt : K.lookup fSt = some ⟨ocSt, odSt, .func (PySem.W.fnOf "_law_step" "_law_step" (defArgs sStep) (defBody sStep) (defScope sStep) .none kVSt dcSt pmSt anSt cdSt ctSt), slSt⟩)
    (cSt : PySem.W.codeIn K cdSt "_law_step" = true)
    (kSt : PySem.W.keepIn K (.ref fSt) = true)
    (lPl : K.lookup fPl = some ⟨ocPl, odPl, .func (PySem.W.fnOf "_law_plan" "_law_plan" (defArgs sPlan) (defBody sPlan) (defScope sPlan) .none kVPl dcPl pmPl anPl cdPl ctPl), slPl⟩)
    (cPl : PySem.W.codeIn K cdPl "_law_plan" = true)
    (kPl : PySem.W.keepIn K (.ref fPl) = true)
    (lRo : K.lookup fRo = some ⟨ocRo, odRo, .func (PySem.W.fnOf "_law_row" "_law_row" (defArgs sRow) (defBody sRow) (defScope sRow) .none kVRo dcRo pmRo anRo cdRo ctRo), slRo⟩)
    (cRo : PySem.W.codeIn K cdRo "_law_row" = true)
    (kRo : PySem.W.keepIn K (.ref fRo) = true)
    (lRs : K.lookup fRs = some ⟨ocRs, odRs, .func (PySem.W.fnOf "_law_rows" "_law_rows" (defArgs sRows) (defBody sRows) (defScope sRows) .none kVRs dcRs pmRs anRs cdRs ctRs), slRs⟩)
    (cRs : PySem.W.codeIn K cdRs "_law_rows" = true)
    (kRs : PySem.W.keepIn K (.ref fRs) = true)
    (lAn : K.lookup fAn = some ⟨ocAn, odAn, .func (PySem.W.fnOf "_law_any_thing" "_law_any_thing" (defArgs sAny) (defBody sAny) (defScope sAny) .none kVAn dcAn pmAn anAn cdAn ctAn), slAn⟩)
    (cAn : PySem.W.codeIn K cdAn "_law_any_thing" = true)
    (kAn : PySem.W.keepIn K (.ref fAn) = true)
    (lIi : K.lookup fIi = some ⟨ocIi, odIi, .func (PySem.W.fnOf "_law_is_int" "_law_is_int" (defArgs sIsInt) (defBody sIsInt) (defScope sIsInt) .none kVIi dcIi pmIi anIi cdIi ctIi), slIi⟩)
    (cIi : PySem.W.codeIn K cdIi "_law_is_int" = true)
    (kIi : PySem.W.keepIn K (.ref fIi) = true)
    (lIw : K.lookup fIw = some ⟨ocIw, odIw, .func (PySem.W.fnOf "_law_is_word" "_law_is_word" (defArgs sIsWord) (defBody sIsWord) (defScope sIsWord) .none kVIw dcIw pmIw anIw cdIw ctIw), slIw⟩)
    (cIw : PySem.W.codeIn K cdIw "_law_is_word" = true)
    (kIw : PySem.W.keepIn K (.ref fIw) = true)
    (lIr : K.lookup fIr = some ⟨ocIr, odIr, .func (PySem.W.fnOf "_law_is_row" "_law_is_row" (defArgs sIsRow) (defBody sIsRow) (defScope sIsRow) .none kVIr dcIr pmIr anIr cdIr ctIr), slIr⟩)
    (cIr : PySem.W.codeIn K cdIr "_law_is_row" = true)
    (kIr : PySem.W.keepIn K (.ref fIr) = true)
    (lSo : K.lookup fSo = some ⟨ocSo, odSo, .func (PySem.W.fnOf "_law_some_fields" "_law_some_fields" (defArgs sSome) (defBody sSome) (defScope sSome) .none kVSo dcSo pmSo anSo cdSo ctSo), slSo⟩)
    (cSo : PySem.W.codeIn K cdSo "_law_some_fields" = true)
    (kSo : PySem.W.keepIn K (.ref fSo) = true)
    (lOd : K.lookup fOd = some ⟨ocOd, odOd, .func (PySem.W.fnOf "_law_odd" "_law_odd" (defArgs sOdd) (defBody sOdd) (defScope sOdd) .none kVOd dcOd pmOd anOd cdOd ctOd), slOd⟩)
    (cOd : PySem.W.codeIn K cdOd "_law_odd" = true)
    (kOd : PySem.W.keepIn K (.ref fOd) = true)
    (lLa : K.lookup fLa = some ⟨ocLa, odLa, .func (PySem.W.fnOf "law" "law" (defArgs sLaw) (defBody sLaw) (defScope sLaw) .none kVLa dcLa pmLa anLa cdLa ctLa), slLa⟩)
    (cLa : PySem.W.codeIn K cdLa "law" = true)
    (kLa : PySem.W.keepIn K (.ref fLa) = true)
    (lIn : K.lookup fIn = some ⟨ocIn, odIn, .func (PySem.W.fnOf "__init__" "Schema.__init__" (defArgs sInit) (defBody sInit) (defScope sInit) .none kVIn dcIn pmIn anIn cdIn ctIn), slIn⟩)
    (cIn : PySem.W.codeIn K cdIn "Schema.__init__" = true)
    (kIn : PySem.W.keepIn K (.ref fIn) = true)
    (lLe : K.lookup fLe = some ⟨ocLe, odLe, .func (PySem.W.fnOf "__len__" "Schema.__len__" (defArgs sLen) (defBody sLen) (defScope sLen) .none kVLe dcLe pmLe anLe cdLe ctLe), slLe⟩)
    (cLe : PySem.W.codeIn K cdLe "Schema.__len__" = true)
    (kLe : PySem.W.keepIn K (.ref fLe) = true)
    (lFg : K.lookup fFg = some ⟨ocFg, odFg, .func (PySem.W.fnOf "fields" "Schema.fields" (defArgs sFlds) (defBody sFlds) (defScope sFlds) .none kVFg dcFg pmFg anFg cdFg ctFg), slFg⟩)
    (cFg : PySem.W.codeIn K cdFg "Schema.fields" = true)
    (kFg : PySem.W.keepIn K (.ref fFg) = true)
    (iIn : PySem.W.isFn K (.ref fIn) = true)
    (iLe : PySem.W.isFn K (.ref fLe) = true)
    (iFg : PySem.W.isFn K (.ref fFg) = true)
    (zlen : PySem.W.nsIn K mainGlobals "len" = some none)
    (zisi : PySem.W.nsIn K mainGlobals "isinstance" = some none)
    (zstr : PySem.W.nsIn K mainGlobals "str" = some none)
    (zall : PySem.W.nsIn K mainGlobals "all" = some none)
    (zmx : PySem.W.nsIn K mainGlobals "max" = some none)
    (zmn : PySem.W.nsIn K mainGlobals "min" = some none)
    (zabs : PySem.W.nsIn K mainGlobals "abs" = some none)
    (zdm : PySem.W.nsIn K mainGlobals "divmod" = some none)
    (zrng : PySem.W.nsIn K mainGlobals "range" = some none)
    (zrpr : PySem.W.nsIn K mainGlobals "repr" = some none)
    (zlst : PySem.W.nsIn K mainGlobals "list" = some none)
    (ztup : PySem.W.nsIn K mainGlobals "tuple" = some none)
    (zzip : PySem.W.nsIn K mainGlobals "zip" = some none)
    (zint : PySem.W.nsIn K mainGlobals "int" = some none)
    (zbool : PySem.W.nsIn K mainGlobals "bool" = some none)
    (zdict : PySem.W.nsIn K mainGlobals "dict" = some none)
    (zenum : PySem.W.nsIn K mainGlobals "enumerate" = some none)
    (y1 : PySem.W.nsIn K mainGlobals "LETTERS" = some (some (.str abc t1)))
    (y2 : PySem.W.nsIn K mainGlobals "MOST_LETTERS" = some (some (.int 8 t2)))
    (y3 : PySem.W.nsIn K mainGlobals "COUNTER" = some (some (.str "counter" t3)))
    (y4 : PySem.W.nsIn K mainGlobals "KINDS" = some (some (.ref kt)))
    (y5 : K.lookup kt = some ⟨.type "tuple", ddk, .seq #[.str "mine" q1, .str "theirs" q2, .str "counter" q3] nk, slk⟩)
    (g1 : PySem.W.plainGet K C Str.empty = true)
    (g2 : PySem.W.hasDictIn K C = true)
    (g3 : PySem.W.plainOver K C = true)
    (g4 : PySem.W.findIn K (.ref C) "__setattr__" = some (some (.builtin "object.__setattr__")))
    (g5 : PySem.W.findIn K (.ref C) "rows" = some none)
    (g6 : PySem.W.makesIn K C = true)
    (g7 : PySem.W.keepIn K (.ref C) = true)
    (g8 : PySem.W.readsIn K C (.type "type") = true)
    (g9 : PySem.W.specialIn K (.ref C) "__getattribute__" = some (some (.builtin "type.__getattribute__")))
    (g10 : PySem.W.findCls K (.ref C) (.type "type") "MOST_LABELS" = some (.val (.int 12 tL)))
    (g11 : PySem.W.findCls K (.ref C) (.type "type") "MOST_COUNTERS" = some (.val (.int 4 tC)))
    : ∃ fd : FuncData, (∀ (s : Shared) (v : Value), BindsTo s fd ⟨[v], []⟩ [("_law_script", v)]) ∧ ∀ base : Heap, K.In base → base.Ns mainGlobals mg → FnOk l.prog w K mg base CX0 6 fa fd ["_law_script"] (spLaw K) := by
  have e := hfa.symm.trans (PySem.W.mg_of X G aLa)
  cases e
  have FN := fun_mk (st := sName) lN cN kN
  have bN := FN.binds (ps := ["thing"]) fun _ _ _ _ _ _ us hl => match us, hl with | [_], _ => rfl
  have FWh := fun_mk (st := sWhole) lWh cWh kWh
  have bWh := FWh.binds (ps := ["thing"]) fun _ _ _ _ _ _ us hl => match us, hl with | [_], _ => rfl
  have FFi := fun_mk (st := sField) lFi cFi kFi
  have bFi := FFi.binds (ps := ["thing"]) fun _ _ _ _ _ _ us hl => match us, hl with | [_], _ => rfl
  have FPr := fun_mk (st := sProb) lPr cPr kPr
  have bPr := FPr.binds (ps := ["field", "earlier"]) fun _ _ _ _ _ _ us hl => match us, hl with | [_, _], _ => rfl
  have FVa := fun_mk (st := sValue) lVa cVa kVa
  have bVa := FVa.binds (ps := ["kind", "thing"]) fun _ _ _ _ _ _ us hl => match us, hl with | [_, _], _ => rfl
  have FVe := fun_mk (st := sVersion) lVe cVe kVe
  have bVe := FVe.binds (ps := ["schema", "thing"]) fun _ _ _ _ _ _ us hl => match us, hl with | [_, _], _ => rfl
  have FPt := fun_mk (st := sPot) lPt cPt kPt
  have bPt := FPt.binds (ps := ["_law_script", "_law_k"]) fun _ _ _ _ _ _ us hl => match us, hl with | [_, _], _ => rfl
  have FD := fun_mk (st := sDraw) lD cD kD
  have bD := FD.binds (ps := ["_law_pot_here", "_law_many"]) fun _ _ _ _ _ _ us hl => match us, hl with | [_, _], _ => rfl
  have FMi := fun_mk (st := sMixed) lMi cMi kMi
  have bMi := FMi.binds (ps := ["_law_pot_here", "_law_given"]) fun _ _ _ _ _ _ us hl => match us, hl with | [_, _], _ => rfl
  have FWo := fun_mk (st := sWord) lWo cWo kWo
  have bWo := FWo.binds (ps := ["_law_pot_here", "_law_taken"]) fun _ _ _ _ _ _ us hl => match us, hl with | [_, _], _ => rfl
  have FWs := fun_mk (st := sWords) lWs cWs kWs
  have bWs := FWs.binds (ps := ["_law_pot_here", "_law_many"]) fun _ _ _ _ _ _ us hl => match us, hl with | [_, _], _ => rfl
  have FFl := fun_mk (st := sFields) lFl cFl kFl
  have bFl := FFl.binds (ps := ["_law_pot_here", "_law_marks", "_law_sums"]) fun _ _ _ _ _ _ us hl => match us, hl with | [_, _, _], _ => rfl
  have FSt := fun_mk (st := sStep) lSt cSt kSt
  have bSt := FSt.binds (ps := ["_law_pot_here", "_law_far"]) fun _ _ _ _ _ _ us hl => match us, hl with | [_, _], _ => rfl
  have FPl := fun_mk (st := sPlan) lPl cPl kPl
  have bPl := FPl.binds (ps := ["_law_pot_here", "_law_fields_here", "_law_far"]) fun _ _ _ _ _ _ us hl => match us, hl with | [_, _, _], _ => rfl
  have FRo := fun_mk (st := sRow) lRo cRo kRo
  have bRo := FRo.binds (ps := ["_law_pot_here", "_law_fields_here", "_law_plan_here"]) fun _ _ _ _ _ _ us hl => match us, hl with | [_, _, _], _ => rfl
  have FRs := fun_mk (st := sRows) lRs cRs kRs
  have bRs := FRs.binds (ps := ["_law_pot_here", "_law_fields_here", "_law_most", "_law_far"]) fun _ _ _ _ _ _ us hl => match us, hl with | [_, _, _, _], _ => rfl
  have FAn := fun_mk (st := sAny) lAn cAn kAn
  have bAn := FAn.binds (ps := ["_law_pot_here"]) fun _ _ _ _ _ _ us hl => match us, hl with | [_], _ => rfl
  have FIi := fun_mk (st := sIsInt) lIi cIi kIi
  have bIi := FIi.binds (ps := ["_law_item"]) fun _ _ _ _ _ _ us hl => match us, hl with | [_], _ => rfl
  have FIw := fun_mk (st := sIsWord) lIw cIw kIw
  have bIw := FIw.binds (ps := ["_law_item"]) fun _ _ _ _ _ _ us hl => match us, hl with | [_], _ => rfl
  have FIr := fun_mk (st := sIsRow) lIr cIr kIr
  have bIr := FIr.binds (ps := ["_law_fields_here", "_law_item"]) fun _ _ _ _ _ _ us hl => match us, hl with | [_, _], _ => rfl
  have FSo := fun_mk (st := sSome) lSo cSo kSo
  have bSo := FSo.binds (ps := ["_law_pot_here"]) fun _ _ _ _ _ _ us hl => match us, hl with | [_], _ => rfl
  have FOd := fun_mk (st := sOdd) lOd cOd kOd
  have bOd := FOd.binds (ps := ["_law_pot_here", "_law_row_here"]) fun _ _ _ _ _ _ us hl => match us, hl with | [_, _], _ => rfl
  have FLa := fun_mk (st := sLaw) lLa cLa kLa
  have bLa := FLa.binds (ps := ["_law_script"]) fun _ _ _ _ _ _ us hl => match us, hl with | [_], _ => rfl
  have FIn := fun_mk (st := sInit) lIn cIn kIn
  have bIn := FIn.binds (ps := ["self", "fields"]) fun _ _ _ _ _ _ us hl => match us, hl with | [_, _], _ => rfl
  have FLe := fun_mk (st := sLen) lLe cLe kLe
  have bLe := FLe.binds (ps := ["self"]) fun _ _ _ _ _ _ us hl => match us, hl with | [_], _ => rfl
  have FFg := fun_mk (st := sFlds) lFg cFg kFg
  have bFg := FFg.binds (ps := ["self"]) fun _ _ _ _ _ _ us hl => match us, hl with | [_], _ => rfl
  have DN : DefAt K mg "is_name" sName ["thing"] fN _ := ⟨FN, bN, PySem.W.mg_of X G aN⟩
  have DWh : DefAt K mg "is_whole_number" sWhole ["thing"] fWh _ := ⟨FWh, bWh, PySem.W.mg_of X G aWh⟩
  have DFi : DefAt K mg "is_field" sField ["thing"] fFi _ := ⟨FFi, bFi, PySem.W.mg_of X G aFi⟩
  have DPr : DefAt K mg "field_problem" sProb ["field", "earlier"] fPr _ := ⟨FPr, bPr, PySem.W.mg_of X G aPr⟩
  have DVa : DefAt K mg "is_value" sValue ["kind", "thing"] fVa _ := ⟨FVa, bVa, PySem.W.mg_of X G aVa⟩
  have DVe : DefAt K mg "is_version" sVersion ["schema", "thing"] fVe _ := ⟨FVe, bVe, PySem.W.mg_of X G aVe⟩
  have DPt : DefAt K mg "_law_pot" sPot ["_law_script", "_law_k"] fPt _ := ⟨FPt, bPt, PySem.W.mg_of X G aPt⟩
  have DD : DefAt K mg "_law_draw" sDraw ["_law_pot_here", "_law_many"] fD _ := ⟨FD, bD, PySem.W.mg_of X G aD⟩
  have DMi : DefAt K mg "_law_mixed" sMixed ["_law_pot_here", "_law_given"] fMi _ := ⟨FMi, bMi, PySem.W.mg_of X G aMi⟩
  have DWo : DefAt K mg "_law_word" sWord ["_law_pot_here", "_law_taken"] fWo _ := ⟨FWo, bWo, PySem.W.mg_of X G aWo⟩
  have DWs : DefAt K mg "_law_words" sWords ["_law_pot_here", "_law_many"] fWs _ := ⟨FWs, bWs, PySem.W.mg_of X G aWs⟩
  have DFl : DefAt K mg "_law_fields" sFields ["_law_pot_here", "_law_marks", "_law_sums"] fFl _ := ⟨FFl, bFl, PySem.W.mg_of X G aFl⟩
  have DSt : DefAt K mg "_law_step" sStep ["_law_pot_here", "_law_far"] fSt _ := ⟨FSt, bSt, PySem.W.mg_of X G aSt⟩
  have DPl : DefAt K mg "_law_plan" sPlan ["_law_pot_here", "_law_fields_here", "_law_far"] fPl _ := ⟨FPl, bPl, PySem.W.mg_of X G aPl⟩
  have DRo : DefAt K mg "_law_row" sRow ["_law_pot_here", "_law_fields_here", "_law_plan_here"] fRo _ := ⟨FRo, bRo, PySem.W.mg_of X G aRo⟩
  have DRs : DefAt K mg "_law_rows" sRows ["_law_pot_here", "_law_fields_here", "_law_most", "_law_far"] fRs _ := ⟨FRs, bRs, PySem.W.mg_of X G aRs⟩
  have DAn : DefAt K mg "_law_any_thing" sAny ["_law_pot_here"] fAn _ := ⟨FAn, bAn, PySem.W.mg_of X G aAn⟩
  have DIi : DefAt K mg "_law_is_int" sIsInt ["_law_item"] fIi _ := ⟨FIi, bIi, PySem.W.mg_of X G aIi⟩
  have DIw : DefAt K mg "_law_is_word" sIsWord ["_law_item"] fIw _ := ⟨FIw, bIw, PySem.W.mg_of X G aIw⟩
  have DIr : DefAt K mg "_law_is_row" sIsRow ["_law_fields_here", "_law_item"] fIr _ := ⟨FIr, bIr, PySem.W.mg_of X G aIr⟩
  have DSo : DefAt K mg "_law_some_fields" sSome ["_law_pot_here"] fSo _ := ⟨FSo, bSo, PySem.W.mg_of X G aSo⟩
  have DOd : DefAt K mg "_law_odd" sOdd ["_law_pot_here", "_law_row_here"] fOd _ := ⟨FOd, bOd, PySem.W.mg_of X G aOd⟩
  have T : Tx mg := ⟨PySem.W.mg_none_of X G zlen, PySem.W.mg_none_of X G zisi, PySem.W.mg_none_of X G zstr, PySem.W.mg_none_of X G zall, PySem.W.mg_none_of X G zmx, PySem.W.mg_none_of X G zmn, PySem.W.mg_none_of X G zabs, PySem.W.mg_none_of X G zdm, PySem.W.mg_none_of X G zrng, PySem.W.mg_none_of X G zrpr, PySem.W.mg_none_of X G zlst, PySem.W.mg_none_of X G ztup, PySem.W.mg_none_of X G zzip, PySem.W.mg_none_of X G zint, PySem.W.mg_none_of X G zbool, PySem.W.mg_none_of X G zdict, PySem.W.mg_none_of X G zenum, ⟨_, PySem.W.mg_of X G y1⟩, ⟨_, PySem.W.mg_of X G y2⟩, ⟨_, PySem.W.mg_of X G y3⟩⟩
  have S : Sx K mg C := ⟨⟨g1, g2, g3, g4⟩, g5, PySem.W.mg_of X G aC, ⟨.type "type", _, _, ⟨g8, g9⟩, ⟨g10, ⟨_, rfl⟩⟩, ⟨g11, ⟨_, rfl⟩⟩⟩, ⟨kt, PySem.W.mg_of X G y4, fun H => .inr ⟨_, _, _, y5, rfl, rfl, (by show 3 ≤ sizeLine; decide), .cons ⟨_, rfl⟩ (.cons ⟨_, rfl⟩ (.cons ⟨_, rfl⟩ .nil))⟩⟩⟩
  have M : Mk K C fIn := ⟨g6, aIn, iIn, g7⟩
  have mL : Meth K C "__len__" fLe := ⟨aLe, iLe, kLe⟩
  have mG : Meth K C "fields" fFg := ⟨aFg, iFg, kFg⟩
  exact ⟨_, fun s v => .of_eq rfl, fun base _ _ => ok_law FLa S M bIn T (ok_init FIn DN DFi DPr S T) DPt (ok_pot FPt T) DSo (ok_some FSo DD DWo DWs DMi DFl T) DRs (ok_rows FRs DD DWo DWs DSt DPl DRo T) DD (ok_draw FD T) DOd (ok_odd FOd DD DMi DAn T) DVe (ok_version FVe DN DWh DVa FLe bLe mL FFg bFg mG S T) DIr (ok_isrow FIr DIi DIw T)⟩
end K14
open PySem PySem.W PyProof.Rows
set_option maxHeartbeats 0 in
theorem PySem.Challenge.cw_mergereach_k14_versions_judged_holds : PySem.Challenge.rw_mergereach_k14_versions_judged.Holds := by
  w_on; o_law; k_head; (case hw => w_witness2)
  k_fill
  refine L2.walk_ofK (l := PySem.Challenge.rw_mergereach_k14_versions_judged) (n := 63) (k := 6) (x := "_law_script") (CX := L2.CX0) (sp := K14.spLaw) rfl (by decide) rfl ⟨rfl, by decide, by decide⟩ (fun w h Y => PySem.W.kIn_of Y) ?F (fun _ _ a ns hl _ hS => ⟨a, ns, rfl, hS, hl, fun _ => rfl⟩) (fun _ _ _ _ h => h)
  case F =>
    intro w mg fa h KX G hmg
    refine' K14.all_mk KX G hmg ?aN ?aWh ?aFi ?aPr ?aVa ?aVe ?aPt ?aD ?aMi ?aWo ?aWs ?aFl ?aSt ?aPl ?aRo ?aRs ?aAn ?aIi ?aIw ?aIr ?aSo ?aOd ?aLa ?aC ?aIn ?aLe ?aFg ?lN ?cN ?kN ?lWh ?cWh ?kWh ?lFi ?cFi ?kFi ?lPr ?cPr ?kPr ?lVa ?cVa ?kVa ?lVe ?cVe ?kVe ?lPt ?cPt ?kPt ?lD ?cD ?kD ?lMi ?cMi ?kMi ?lWo ?cWo ?kWo ?lWs ?cWs ?kWs ?lFl ?cFl ?kFl ?lSt ?cSt ?kSt ?lPl ?cPl ?kPl ?lRo ?cRo ?kRo ?lRs ?cRs ?kRs ?lAn ?cAn ?kAn ?lIi ?cIi ?kIi ?lIw ?cIw ?kIw ?lIr ?cIr ?kIr ?lSo ?cSo ?kSo ?lOd ?cOd ?kOd ?lLa ?cLa ?kLa ?lIn ?cIn ?kIn ?lLe ?cLe ?kLe ?lFg ?cFg ?kFg ?iIn ?iLe ?iFg ?zlen ?zisi ?zstr ?zall ?zmx ?zmn ?zabs ?zdm ?zrng ?zrpr ?zlst ?ztup ?zzip ?zint ?zbool ?zdict ?zenum ?y1 ?y2 ?y3 ?y4 ?y5 ?g1 ?g2 ?g3 ?g4 ?g5 ?g6 ?g7 ?g8 ?g9 ?g10 ?g11
    (case aN => k_is)
    (case aWh => k_is)
    (case aFi => k_is)
    (case aPr => k_is)
    (case aVa => k_is)
    (case aVe => k_is)
    (case aPt => k_is)
    (case aD => k_is)
    (case aMi => k_is)
    (case aWo => k_is)
    (case aWs => k_is)
    (case aFl => k_is)
    (case aSt => k_is)
    (case aPl => k_is)
    (case aRo => k_is)
    (case aRs => k_is)
    (case aAn => k_is)
    (case aIi => k_is)
    (case aIw => k_is)
    (case aIr => k_is)
    (case aSo => k_is)
    (case aOd => k_is)
    (case aLa => k_is)
    (case aC => k_is)
    (case aIn => k_is)
    (case aLe => k_is)
    (case aFg => k_is)
    (case lN => k_is)
    (case cN => k_is)
    (case kN => k_is)
    (case lWh => k_is)
    (case cWh => k_is)
    (case kWh => k_is)
    (case lFi => k_is)
    (case cFi => k_is)
    (case kFi => k_is)
    (case lPr => k_is)
    (case cPr => k_is)
    (case kPr => k_is)
    (case lVa => k_is)
    (case cVa => k_is)
    (case kVa => k_is)
    (case lVe => k_is)
    (case cVe => k_is)
    (case kVe => k_is)
    (case lPt => k_is)
    (case cPt => k_is)
    (case kPt => k_is)
    (case lD => k_is)
    (case cD => k_is)
    (case kD => k_is)
    (case lMi => k_is)
    (case cMi => k_is)
    (case kMi => k_is)
    (case lWo => k_is)
    (case cWo => k_is)
    (case kWo => k_is)
    (case lWs => k_is)
    (case cWs => k_is)
    (case kWs => k_is)
    (case lFl => k_is)
    (case cFl => k_is)
    (case kFl => k_is)
    (case lSt => k_is)
    (case cSt => k_is)
    (case kSt => k_is)
    (case lPl => k_is)
    (case cPl => k_is)
    (case kPl => k_is)
    (case lRo => k_is)
    (case cRo => k_is)
    (case kRo => k_is)
    (case lRs => k_is)
    (case cRs => k_is)
    (case kRs => k_is)
    (case lAn => k_is)
    (case cAn => k_is)
    (case kAn => k_is)
    (case lIi => k_is)
    (case cIi => k_is)
    (case kIi => k_is)
    (case lIw => k_is)
    (case cIw => k_is)
    (case kIw => k_is)
    (case lIr => k_is)
    (case cIr => k_is)
    (case kIr => k_is)
    (case lSo => k_is)
    (case cSo => k_is)
    (case kSo => k_is)
    (case lOd => k_is)
    (case cOd => k_is)
    (case kOd => k_is)
    (case lLa => k_is)
    (case cLa => k_is)
    (case kLa => k_is)
    (case lIn => k_is)
    (case cIn => k_is)
    (case kIn => k_is)
    (case lLe => k_is)
    (case cLe => k_is)
    (case kLe => k_is)
    (case lFg => k_is)
    (case cFg => k_is)
    (case kFg => k_is)
    (case iIn => k_is)
    (case iLe => k_is)
    (case iFg => k_is)
    (case zlen => k_is)
    (case zisi => k_is)
    (case zstr => k_is)
    (case zall => k_is)
    (case zmx => k_is)
    (case zmn => k_is)
    (case zabs => k_is)
    (case zdm => k_is)
    (case zrng => k_is)
    (case zrpr => k_is)
    (case zlst => k_is)
    (case ztup => k_is)
    (case zzip => k_is)
    (case zint => k_is)
    (case zbool => k_is)
    (case zdict => k_is)
    (case zenum => k_is)
    (case y1 => k_is)
    (case y2 => k_is)
    (case y3 => k_is)
    (case y4 => k_is)
    (case y5 => k_is)
    (case g1 => k_is)
    (case g2 => k_is)
    (case g3 => k_is)
    (case g4 => k_is)
    (case g5 => k_is)
    (case g6 => k_is)
    (case g7 => k_is)
    (case g8 => k_is)
    (case g9 => k_is)
    (case g10 => k_is)
    (case g11 => k_is)
