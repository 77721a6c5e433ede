import PyProof.Rows.All
import Wide.All
import OpenK.AllK
import Wide.FinOn
import HandS.ForMost
import HandS.IsInst
import HandS.Flow
import PyProof.ReprRoads
import PyProof.ZipIter
import KE.KItemsList
import HandS.ListItems
import KE.GoesMore
import KE.GoesEnum
import HandS.Walk
import HandS.ClsMeth
import HandS.TupAny
import KE.KExcSuper
import KE.KExcInit
import HandS.ExcInit
import HandS.ExcCtx
import HandS.Nested
import HandS.Words
import HandS.Defaults
import KE.KExcIs
import HandS.ExcIs
import HandS.ExcField
import HandS.WordsExc
import HandS.Evl
import HandS.Lambda
import HandS.ExcOwn
import HandS.Wide
import HandS.Deep
import HandS.WordsDict
import HandS.Text
import HandS.Style
import HandS.NoneIn
import HandS.Conv
import HandS.WideBits
import PyProof.EnumMake
import HandS.TryMany
import PyProof.RowDictHeap
import HandS.StrMore
import HandS.FStr
import HandS.IterVal
import HandS.OwnEq
import HandS.DictComp
import KE.KEqNest
import HandS.DeepEq
import PyProof.NeKinds
import HandS.NestedHot
import HandS.ExcInitHot
import HandS.SuiteRaise
import HandS.RaiseFrom
import KE.IntTextText
import KE.KIntText
import KE.KStrOpen
import KE.RegKIsAll
import KE.RegKSuper
import KE.RegKTryMore
import PySem.Challenge.RW_mergereach_k10_schema_texts
set_option Elab.async false
set_option linter.all false
set_option maxRecDepth 100000
namespace Kx
open PySem PySem.Spec PyProof.Rows L2
structure FnG (P : Program) (w : World) (K : PySem.W.Frag) (mg : Str → Option Value) (base : Heap)
    (CX : CXT) (k : Nat) (f : Addr) (fd : FuncData) (ps : List Str) (sp : Sp) : Prop where
  many : ∀ vs H Q E, sp vs H Q E → vs.length = ps.length
  goes : ∀ (A : Around) (outer : List Env) (s : Shared) (H : Hp) (args : Args) (us : List Value) (vs : List V) (Q : VK) (E : XK),
    A.guards = some [] → Room k A → Env0 P w K mg base A outer s H →
    BindsTo s fd args (ps.zip us) → Vals vs us → sp vs H Q E → codeAny (model P w) A (.call (.ref f) args) (CR CX outer P w H s Q E) s
section
variable {K : PySem.W.Frag} {mg : Str → Option Value} {P : Program} {base : Heap} {w : World}
theorem FnG.of {CX : CXT} {k : Nat} {f : Addr} {fd : FuncData} {ps : List Str} {sp : Sp}
    (F : FnOk P w K mg base CX k f fd ps sp) : FnG P w K mg base CX k f fd ps sp :=
  ⟨F.len, fun A outer s H args us vs Q E _ => F.run A outer s H args us vs Q E⟩
/-- a def's body keeps its promise, the guards known -/
theorem fnG_of {CX : CXT} {k : Nat} {f : Addr} {nm qual : Str} {prs : Arguments} {bd : List Stmt} {sc : Scope}
    {dV kV doc pm cdv ct oc : Value} {an od : Option Addr} {osl : Array (Option Value)} {N ps : List Str} {sp : Sp}
    (lk : K.lookup f = some ⟨oc, od, .func (PySem.W.fnOf nm qual prs bd sc dV kV doc pm an cdv ct), osl⟩)
    (cin : PySem.W.codeIn K cdv qual = true) (S : FnScope N ps sc)
    (many : ∀ vs H Q E, sp vs H Q E → vs.length = ps.length)
    (body : ∀ (A : Around) (outer : List Env) (s : Shared) (H : Hp) (vs : List V) (Q : VK) (E : XK),
      A.guards = some [] → Room k (A.deeper (envOfC qual sc s.heap.objs.size f cdv)) → sp vs H Q E →
      ∃ t, PSs (cxOf CX P w K mg base N qual sc f cdv A outer s H E) bd t ∧
        t { nx := fun _ H' => Q .non H', rt := Q } (start N vs) H) :
    FnG P w K mg base CX (k + 1) f (PySem.W.fnOf nm qual prs bd sc dV kV doc pm an cdv ct) ps sp := by
  refine ⟨many, fun A outer s H args us vs Q E gd room en bt rel want => ?_⟩
  have ln := many _ _ _ _ want
  have kin : K.In s.heap := en.mod.kin.keeps fun b o e => (en.bs b o e).1
  have nolim : s.heap.NoLimit := en.mod.nolimit.keeps fun b o e => (en.bs b o e).1
  have kinds : ∀ y ∈ ps.zip us, sc.names.lookup y.1 = some .local ∨
      (sc.names.lookup y.1 = some .cell ∧ ((cellsFrom (s.heap.objs.size + 1) sc.names []).lookup y.1).isSome = true) := by
    rintro ⟨n, v⟩ hy
    rcases S.par n (List.of_mem_zip hy).1 with z | z
    · exact .inl z
    · exact .inr ⟨z, PySem.W.cellsFrom_some _ _ _ (.inl z)⟩
  refine codeAny_call_function room.depth (kin _ _ lk) rfl S.co S.gen rfl (PySem.W.codeRec_of kin cin) (bt _ _ _ _ ?_)
  refine wpAny_newFunctionEnv_cells S.kind kinds fun env he s1 x => ?_
  subst he
  refine ⟨nolim.keeps x.toInCall.keep, codeAny_func ?_⟩
  obtain ⟨t, pt, pq⟩ := body A outer s H vs Q E gd (room.deeper _) want
  have I : Inv (cxOf CX P w K mg base N qual sc f cdv A outer s H E) [] (start N vs) H s1 := inv_start S room.hd en ln rel x
  refine wpAny_mono (pt.run [] s1 (start N vs) H _ I pq) (fun fl s' z => ?_) fun _ _ z => z
  cases fl with
  | ret u =>
    obtain ⟨v, σ', H', J, rv, q⟩ := z
    exact (⟨v, H', J.os, J.bare, J.base, J.hok, rv, q⟩ : CE outer P w H s Q u s')
  | next =>
    obtain ⟨σ', H', J, q⟩ := z
    exact (⟨V.non, H', J.os, J.bare, J.base, J.hok, rfl, q⟩ : CE outer P w H s Q Value.none s')
  | brk =>
    obtain ⟨_, _, _, no⟩ := z
    exact no.elim
  | cont =>
    obtain ⟨_, _, _, no⟩ := z
    exact no.elim
end
end Kx
set_option Elab.async false
set_option linter.all false
set_option maxRecDepth 100000
set_option maxHeartbeats 1000000
namespace Kz
open PySem
open PySem.Sem (wp)
/-- a zip object that has handed out the tuple at T -/
abbrev ZipO (h : Heap) (z TI TO : Addr) (f0 : Value) (f1 : Bool) : Prop :=
  h.get? z = some { cls := .type "zip", dict := none, data := .fields #[f0, .bool f1, .bool false, .ref TI, .ref TO], slots := #[] }
section
variable {E : Value → Shared → Prop} {s : Shared} {A : Around} {prog : Program} {w : World}
open Builtin.SmallTypes in
/-- one turn of a zip object that has handed out the tuple at T (which lives still): the first is asked, then the second, then a new pair is laid -/
theorem zip_turn {z TI TO i1 i2 T : Addr} {f1 : Bool} {oT : Obj} {Q : Fin → Shared → Prop} (hz : ZipO s.heap z TI TO (rawInt T) f1) (hT : s.heap.get? T = some oT) (hTI : IsPair s.heap TI (.ref i1) (.ref i2))
    (go : ∀ hA, ZipO hA z TI TO (rawInt T) true → Heap.SameBut z s.heap hA → wpAny (model prog w) A (nextOf (.ref i1)) (fun x s1 => wpAny (model prog w) A (nextOf (.ref i2)) (fun y s2 =>
      Q (.done (.ret (.ref s2.heap.objs.size))) { s2 with heap := s2.heap.push { cls := .type "tuple", data := .seq #[x, y] } }) E s1) E { s with heap := hA }) :
    wpAny (model prog w) A (Builtin.«zip.__next__» ⟨[Value.ref z], []⟩) Q E s := by
  have known : wpAny (model prog w) A (ownedTupleIsFree (.ref z)) (fun b t => b = false ∧ ∃ hA, t = { s with heap := hA } ∧ ZipO hA z TI TO (rawInt T) true ∧ Heap.SameBut z s.heap hA) E s := by
    refine (show wpAny _ _ (field (.ref z) 0 >>= _) _ _ _ from wpAny_bind (wpAny_field hz rfl rfl ?_))
    dsimp only
    refine (show wpAny _ _ (loadIfAlive ((T : Int)).toNat >>= _) _ _ _ from ?_)
    rw [Int.toNat_natCast]
    refine wpAny_bind (W.kdx_alive hT (show wpAny _ _ (field (.ref z) 1 >>= _) _ _ _ from wpAny_bind (wpAny_field hz rfl (x := .bool f1) rfl ?_)))
    cases f1 with
    | true => exact (show wpAny _ _ (pure false) _ _ _ from wpAny_pure ⟨rfl, s.heap, rfl, hz, rfl, fun _ _ => rfl⟩)
    | false => exact (show wpAny _ _ (setField (.ref z) 1 (.bool true) >>= _) _ _ _ from wpAny_bind (wpAny_setField_rec hz (by simp) fun hA zA same => wpAny_pure ⟨rfl, hA, rfl, zA, same⟩))
  refine (show wpAny _ _ (field (.ref z) 2 >>= _) _ _ _ from wpAny_bind (wpAny_field hz rfl (x := .bool false) rfl
    (show wpAny _ _ (field (.ref z) 3 >>= _) _ _ _ from wpAny_bind (wpAny_field hz rfl (x := .ref TI) rfl (wpAny_bind (wpAny_seqItems hTI rfl (wpAny_bind (wpAny_mono known (fun b t got => ?_) fun _ _ e => e))))))))
  obtain ⟨rfl, hA, rfl, zA, same⟩ := got
  refine (show wpAny _ _ (_ >>= _) _ _ _ from wpAny_bind ?_)
  first
  | rw [List.forIn_toArray, List.forIn_cons, List.forIn_cons, List.forIn_nil]
  | (rw [← Array.forIn_toList, List.toList_toArray, List.forIn_cons]; simp only [List.forIn_cons, List.forIn_nil, pure_bind])
  refine wpAny_bind (wpAny_bind (wpAny_holding (show wpAny _ _ (nextOf (.ref i1) >>= _) _ _ _ from wpAny_bind (wpAny_mono (go hA zA same) (fun x s1 more => wpAny_pure (wpAny_pure ?_)) fun _ _ e => e))))
  refine wpAny_bind (wpAny_bind (wpAny_holding (show wpAny _ _ (nextOf (.ref i2) >>= _) _ _ _ from wpAny_bind (wpAny_mono more (fun y s2 fin => wpAny_pure (wpAny_pure (wpAny_pure ?_))) fun _ _ e => e))))
  exact (show wpAny _ _ (newTuple [x, y] >>= _) _ _ _ from wpAny_bind (wpAny_newTuple (wpAny_pure fin)))
theorem zo_next_item {z TI TO i1 i2 l1 l2 T : Addr} {k1 k2 : Nat} {f1 : Bool} {oT : Obj} {xs ys : Array Value} {x y : Value} {Q : Value → Shared → Prop}
    (D : ZipApart z TI TO i1 i2 l1 l2) (hz : ZipO s.heap z TI TO (rawInt T) f1) (hT : s.heap.get? T = some oT) (hTI : IsPair s.heap TI (.ref i1) (.ref i2)) (it1 : s.heap.IsListIter i1 l1 k1) (it2 : s.heap.IsListIter i2 l2 k2)
    (sq1 : s.heap.IsList l1 xs) (sq2 : s.heap.IsList l2 ys) (ex : xs[k1]? = some x) (ey : ys[k2]? = some y)
    (fin : ∀ hC, ZipO hC z TI TO (rawInt T) true → hC.IsListIter i1 l1 (k1 + 1) → hC.IsListIter i2 l2 (k2 + 1) → IsPair hC s.heap.objs.size x y →
      (∀ b ob, b ≠ z → b ≠ i1 → b ≠ i2 → s.heap.get? b = some ob → hC.get? b = some ob) → Q (.ref s.heap.objs.size) { s with heap := hC }) :
    wpAny (model prog w) A (Builtin.«zip.__next__» ⟨[.ref z], []⟩) (fun r t => ∃ v, r = .done (.ret v) ∧ Q v t) E s := by
  refine zip_turn hz hT hTI fun hA zA same => wpAny_nextOf_list_item (it1.extBut same.extBut D.i1z) (sq1.extBut same.extBut D.l1z) ex fun hB b1 sB => ?_
  refine wpAny_nextOf_list_item ((it2.extBut same.extBut D.i2z).extBut sB.extBut D.i12.symm) ((sq2.extBut same.extBut D.l2z).extBut sB.extBut D.l2i1) ey fun hC c2 sC => ⟨_, rfl, ?_⟩
  have size : hC.objs.size = s.heap.objs.size := sC.1.trans (sB.1.trans same.1)
  have pair : IsPair (hC.push { cls := .type "tuple", data := .seq #[x, y] }) hC.objs.size x y := Heap.get?_push_size _ rfl
  have up : ∀ {b : Addr} {ob : Obj}, hC.get? b = some ob → (hC.push { cls := .type "tuple", data := .seq #[x, y] }).get? b = some ob := fun e => Heap.get?_push_of_some _ e
  show Q (.ref hC.objs.size) _
  rw [size] at pair ⊢
  exact fin _ (up (sC.extBut _ _ D.i2z.symm (sB.extBut _ _ D.i1z.symm zA))) ((b1.extBut sC.extBut D.i12).at fun _ e => up e) (c2.at fun _ e => up e) pair fun b ob n1 n2 n3 e => up (sC.extBut _ _ n3 (sB.extBut _ _ n2 (same.extBut _ _ n1 e)))
theorem zo_next_end {z TI TO i1 i2 l1 l2 T : Addr} {k1 k2 : Nat} {f1 : Bool} {oT : Obj} {xs ys : Array Value} {Q : Fin → Shared → Prop} (calm : A.handled = none) (D : ZipApart z TI TO i1 i2 l1 l2) (hz : ZipO s.heap z TI TO (rawInt T) f1)
    (hT : s.heap.get? T = some oT) (hTI : IsPair s.heap TI (.ref i1) (.ref i2)) (it1 : s.heap.IsListIter i1 l1 k1) (it2 : s.heap.IsListIter i2 l2 k2) (sq1 : s.heap.IsList l1 xs) (sq2 : s.heap.IsList l2 ys) (stop : xs[k1]? = none ∨ ys[k2]? = none)
    (out : ∀ hC e, (∀ b ob, b ≠ z → b ≠ i1 → b ≠ i2 → s.heap.get? b = some ob → hC.get? b = some ob) → (∃ ob, hC.get? e = some ob ∧ ob.cls = .type "StopIteration") → E (.ref e) { s with heap := hC }) :
    wpAny (model prog w) A (Builtin.«zip.__next__» ⟨[Value.ref z], []⟩) Q E s := by
  refine zip_turn hz hT hTI fun hA zA same => ?_
  have a1 := it1.extBut same.extBut D.i1z
  have q1 := sq1.extBut same.extBut D.l1z
  match ex : xs[k1]? with
  | none => exact wpAny_nextOf_list_end calm a1 q1 ex fun hB e sB he => out hB e (fun b ob n1 n2 _ q => sB _ _ n2 (same.extBut _ _ n1 q)) he
  | some x =>
    have ey : ys[k2]? = none := stop.resolve_left fun q => by rw [ex] at q; cases q
    refine wpAny_nextOf_list_item a1 q1 ex fun hB b1 sB => ?_
    exact wpAny_nextOf_list_end calm ((it2.extBut same.extBut D.i2z).extBut sB.extBut D.i12.symm) ((sq2.extBut same.extBut D.l2z).extBut sB.extBut D.l2i1) ey fun hC e sC he => out hC e (fun b ob n1 n2 n3 q => sC _ _ n3 (sB.extBut _ _ n2 (same.extBut _ _ n1 q))) he
/-- the zip object ahead of its i-th turn, where what it hands out is kept -/
def ZSt (h : Heap) (z TI TO i1 i2 l1 l2 S : Addr) (i : Nat) : Prop :=
  IsPair h TI (.ref i1) (.ref i2) ∧ h.IsListIter i1 l1 i ∧ h.IsListIter i2 l2 i ∧
    ((IsZip h z TI TO .none ∧ ∃ a b, IsPair h TO a b) ∨
      ∃ (T : Addr) (f1 : Bool) (oT : Obj), ZipO h z TI TO (rawInt T) f1 ∧ h.get? T = some oT ∧ T ≠ z ∧ T ≠ i1 ∧ T ≠ i2 ∧ T ≠ S)
theorem ZSt.stays {h h' : Heap} {z TI TO i1 i2 l1 l2 S : Addr} {i : Nat} (st : ZSt h z TI TO i1 i2 l1 l2 S i) (k : ∀ b o, b ≠ S → h.get? b = some o → h'.get? b = some o)
    (zS : z ≠ S) (tS : TI ≠ S) (oS : TO ≠ S) (s1 : i1 ≠ S) (s2 : i2 ≠ S) : ZSt h' z TI TO i1 i2 l1 l2 S i := by
  obtain ⟨a, b, c, d⟩ := st
  refine ⟨k _ _ tS a, b.at fun o e => k _ _ s1 e, c.at fun o e => k _ _ s2 e, ?_⟩
  rcases d with ⟨d, x, y, e⟩ | ⟨T, f1, oT, d, e, n1, n2, n3, n4⟩
  · exact .inl ⟨k _ _ zS d, x, y, k _ _ oS e⟩
  · exact .inr ⟨T, f1, oT, k _ _ zS d, k _ _ n4 e, n1, n2, n3, n4⟩
theorem zs_item {z TI TO i1 i2 l1 l2 S : Addr} {i : Nat} {xs ys : Array Value} {x y : Value} {Q : Option Value → Shared → Prop}
    (D : ZipApart z TI TO i1 i2 l1 l2) (st : ZSt s.heap z TI TO i1 i2 l1 l2 S i) (hl1 : s.heap.IsList l1 xs) (hl2 : s.heap.IsList l2 ys) (hx : xs[i]? = some x) (hy : ys[i]? = some y)
    (hS : S < s.heap.objs.size)
    (hQ : ∀ h', ZSt h' z TI TO i1 i2 l1 l2 S (i + 1) → IsPair h' s.heap.objs.size x y →
      (∀ b ob, b ≠ z → b ≠ TO → b ≠ i1 → b ≠ i2 → s.heap.get? b = some ob → h'.get? b = some ob) → Q (some (.ref s.heap.objs.size)) { s with heap := h' }) : wpAny (model prog w) A (pyNext (.ref z)) Q E s := by
  obtain ⟨hTI, h1, h2, d⟩ := st
  have lt : ∀ {c : Addr} {o : Obj}, s.heap.get? c = some o → s.heap.objs.size ≠ c := fun e => Nat.ne_of_gt (Heap.lt_size e)
  have n1 : s.heap.objs.size ≠ i1 := by
    obtain ⟨_, e, _⟩ := id h1
    exact lt e
  have n2 : s.heap.objs.size ≠ i2 := by
    obtain ⟨_, e, _⟩ := id h2
    exact lt e
  rcases d with ⟨hz, a, b, hTO⟩ | ⟨T, f1, oT, hz, hT, m1, m2, m3, m4⟩
  · refine wpAny_pyNext_zip_item D hz hTI hTO h1 h2 hl1 hl2 hx hy fun h' z' to' i1' i2' pr sz k => ?_
    exact hQ h' ⟨k _ _ D.TIz D.TITO D.TIi1 D.TIi2 hTI, i1', i2', .inr ⟨s.heap.objs.size, false, _, z', pr, lt hz, n1, n2, Nat.ne_of_gt hS⟩⟩ pr k
  · have ty : s.TypeIs (.ref z) "zip" := ⟨_, hz, rfl⟩
    unfold pyNext
    refine wpAny_bind (wpAny_attempt (wpAny_callSpecial?_slot (name := Str.ofString "__next__") ty F.slot_zip_next (wpAny_call_entry F.slot_zip_next ty F.entry_zip_next ?_ (F.args_zip_next_1 _))))
    refine zo_next_item D hz hT hTI h1 h2 hl1 hl2 hx hy fun h' z' i1' i2' pr k => wpAny_pure ?_
    exact hQ h' ⟨k _ _ D.TIz D.TIi1 D.TIi2 hTI, i1', i2', .inr ⟨T, true, _, z', k _ _ m1 m2 m3 hT, m1, m2, m3, m4⟩⟩ pr fun c o q1 _ q3 q4 e => k c o q1 q3 q4 e
theorem zs_end {z TI TO i1 i2 l1 l2 S : Addr} {i : Nat} {xs ys : Array Value} {Q : Option Value → Shared → Prop} (hh : A.handled = none)
    (D : ZipApart z TI TO i1 i2 l1 l2) (st : ZSt s.heap z TI TO i1 i2 l1 l2 S i) (hl1 : s.heap.IsList l1 xs) (hl2 : s.heap.IsList l2 ys) (stop : xs[i]? = none ∨ ys[i]? = none)
    (hQ : ∀ h', (∀ b ob, b ≠ z → b ≠ TO → b ≠ i1 → b ≠ i2 → s.heap.get? b = some ob → h'.get? b = some ob) → Q none { s with heap := h' }) : wpAny (model prog w) A (pyNext (.ref z)) Q E s := by
  obtain ⟨hTI, h1, h2, d⟩ := st
  rcases d with ⟨hz, a, b, hTO⟩ | ⟨T, f1, oT, hz, hT, m1, m2, m3, m4⟩
  · exact wpAny_pyNext_zip_end hh D hz hTI hTO h1 h2 hl1 hl2 stop hQ
  · have ty : s.TypeIs (.ref z) "zip" := ⟨_, hz, rfl⟩
    unfold pyNext
    refine wpAny_bind (wpAny_attempt (wpAny_callSpecial?_slot (name := Str.ofString "__next__") ty F.slot_zip_next (wpAny_call_entry F.slot_zip_next ty F.entry_zip_next ?_ (F.args_zip_next_1 _))))
    refine zo_next_end hh D hz hT hTI h1 h2 hl1 hl2 stop fun h' e k he => ?_
    exact wpAny_bind (wpAny_isInstance (T := "StopIteration") (b := true) he isSubtype_stop (wpAny_pure (hQ _ fun c o q1 _ q3 q4 e => k c o q1 q3 q4 e)))
end
/-- the pairs that were made, above lo, one behind the other -/
structure ZG (xs ys : Array Value) (lo : Addr) (h : Heap) (as : List Addr) : Prop where
  rise : as.Pairwise (· < ·)
  above : ∀ a ∈ as, lo < a
  pairs : ∀ (j : Nat) (a : Addr), as[j]? = some a → ∃ x y, xs[j]? = some x ∧ ys[j]? = some y ∧ IsPair h a x y
theorem ZG.there {xs ys : Array Value} {lo : Addr} {h : Heap} {as : List Addr} (g : ZG xs ys lo h as) {a : Addr} (ha : a ∈ as) : a < h.objs.size := by
  obtain ⟨j, at_j⟩ := List.mem_iff_getElem?.mp ha
  obtain ⟨_, _, _, _, e⟩ := g.pairs j a at_j
  exact Heap.lt_size e
/-- list.extend's loop, entered -/
theorem extend_in {prog : Program} {w : World} {A : Around} {R : Result → Shared → Prop} {s : Shared} {S z : Addr} {res : Value}
    (h : wpAny (model prog w) A.in1 (Builtin.«list.extend.loop» ⟨[.ref S, .ref z, res], []⟩) (fun r t => match r with | .done f => R (.ok f) t | .again c => c.quiet = true ∧ codeAny (model prog w) A c R t) (fun e t => R (.error e) t) s) :
    codeAny (model prog w) A (.builtin "list.extend.loop" ⟨[.ref S, .ref z, res], []⟩) R s :=
  codeAny_builtin PySem.F.entry_extend_loop ((Around.under_plainId PySem.F.plain_extend_loop _).symm ▸ h)
section
variable {prog : Program} {w : World} {A : Around} {s : Shared} {R : Result → Shared → Prop} {xs ys : Array Value}
theorem zl_loop {z TI TO i1 i2 l1 l2 S : Addr} {n : Nat} (hn : n = min xs.size ys.size) (hh : A.handled = none) (D : ZipApart z TI TO i1 i2 l1 l2)
    (zS : z < S) (tS : TI < S) (oS : TO < S) (s1 : i1 < S) (s2 : i2 < S) (l1S : l1 < S) (l2S : l2 < S) (small : n ≤ sizeLine) (res : Value) {h₁ : Heap}
    (hR : ∀ h' tk acc c as, (∀ b o, b ≠ S → b ≠ z → b ≠ TO → b ≠ i1 → b ≠ i2 → h₁.get? b = some o → h'.get? b = some o) →
      h'.get? S = some { cls := .type "list", dict := none, data := .seq acc c, slots := #[] } → as.length = n → ZG xs ys S h' as → acc.toList = as.map Value.ref → R (.ok (.ret res)) { s with heap := h', toks := tk }) :
    ∀ (k i : Nat) (h : Heap) (tk c : Nat) (acc : Array Value) (as : List Addr), n - i = k → i ≤ n → ZSt h z TI TO i1 i2 l1 l2 S i → h.IsList l1 xs → h.IsList l2 ys →
      (∀ b o, b ≠ S → b ≠ z → b ≠ TO → b ≠ i1 → b ≠ i2 → h₁.get? b = some o → h.get? b = some o) →
      h.get? S = some { cls := .type "list", dict := none, data := .seq acc c, slots := #[] } → acc.toList = as.map Value.ref → as.length = i → ZG xs ys S h as →
      codeAny (model prog w) A (.builtin "list.extend.loop" ⟨[.ref S, .ref z, res], []⟩) R { s with heap := h, toks := tk } := by
  intro k
  induction k with
  | zero =>
    intro i h tk c acc as hk hi st L1 L2 keep hS hacc hal G
    have hin : i = n := by omega
    refine extend_in ?_
    have stop : xs[i]? = none ∨ ys[i]? = none := by
      rcases Nat.le_total xs.size ys.size with q | q
      · exact .inl (Array.getElem?_eq_none (by rw [hin, hn, Nat.min_eq_left q]; exact Nat.le_refl _))
      · exact .inr (Array.getElem?_eq_none (by rw [hin, hn, Nat.min_eq_right q]; exact Nat.le_refl _))
    refine wpAny_bind (zs_end (s := { s with heap := h, toks := tk }) (A := A.in1) hh D st L1 L2 stop fun h' he => ?_)
    refine wpAny_pure (hR h' tk acc c as (fun b o q0 q1 q2 q3 q4 e => he b o q1 q2 q3 q4 (keep b o q0 q1 q2 q3 q4 e)) (he S _ (Nat.ne_of_gt zS) (Nat.ne_of_gt oS) (Nat.ne_of_gt s1) (Nat.ne_of_gt s2) hS) (by omega) ⟨G.rise, G.above, fun j a hj => ?_⟩ hacc)
    obtain ⟨x, y, e1, e2, e3⟩ := G.pairs j a hj
    have up := G.above a (List.mem_of_getElem? hj)
    exact ⟨x, y, e1, e2, he a _ (Nat.ne_of_gt (Nat.lt_trans zS up)) (Nat.ne_of_gt (Nat.lt_trans oS up)) (Nat.ne_of_gt (Nat.lt_trans s1 up)) (Nat.ne_of_gt (Nat.lt_trans s2 up)) e3⟩
  | succ k ih =>
    intro i h tk c acc as hk hi st L1 L2 keep hS hacc hal G
    have hlt : i < n := by omega
    have hix : i < xs.size := by
      have := Nat.min_le_left xs.size ys.size
      omega
    have hiy : i < ys.size := by
      have := Nat.min_le_right xs.size ys.size
      omega
    have hsz : acc.size = i := Eq.trans (by rw [← Array.length_toList, hacc, List.length_map]) hal
    have hSl : S < _ := Heap.lt_size hS
    refine extend_in ?_
    refine wpAny_bind (zs_item (s := { s with heap := h, toks := tk }) D st L1 L2 (Array.getElem?_eq_getElem hix) (Array.getElem?_eq_getElem hiy) hSl fun h' st' pr hkp => ?_)
    dsimp only at pr hkp ⊢
    have hS' := hkp S _ (Nat.ne_of_gt zS) (Nat.ne_of_gt oS) (Nat.ne_of_gt s1) (Nat.ne_of_gt s2) hS
    have up : ∀ c ob, c ≠ S → h'.get? c = some ob → (h'.update S (Obj.mapSeq (·.push (Value.ref h.objs.size)))).get? c = some ob := fun _ _ ne e => (Heap.get?_update_other _ _ ne.symm).trans e
    have apart : ∀ {a : Addr}, S < a → a ≠ z ∧ a ≠ TO ∧ a ≠ i1 ∧ a ≠ i2 := fun q =>
      ⟨Nat.ne_of_gt (Nat.lt_trans zS q), Nat.ne_of_gt (Nat.lt_trans oS q), Nat.ne_of_gt (Nat.lt_trans s1 q), Nat.ne_of_gt (Nat.lt_trans s2 q)⟩
    refine (show wpAny _ A.in1 (updateSeq S (·.push (Value.ref h.objs.size)) >>= _) _ _ _ from wpAny_bind ?_)
    refine wpAny_updateSeq hS' rfl (wpAny_pure ⟨plainId_quiet PySem.F.plain_extend_loop _, ih (i + 1) _ tk _ (acc.push (Value.ref h.objs.size)) (as ++ [h.objs.size]) (by omega) hlt
      (st'.stays up (Nat.ne_of_lt zS) (Nat.ne_of_lt tS) (Nat.ne_of_lt oS) (Nat.ne_of_lt s1) (Nat.ne_of_lt s2))
      (L1.at fun o e => up l1 o (Nat.ne_of_lt l1S) (hkp l1 o D.l1z D.l1TO D.l1i1 D.l1i2 e)) (L2.at fun o e => up l2 o (Nat.ne_of_lt l2S) (hkp l2 o D.l2z D.l2TO D.l2i1 D.l2i2 e))
      (fun b o q0 q1 q2 q3 q4 e => up b o q0 (hkp b o q1 q2 q3 q4 (keep b o q0 q1 q2 q3 q4 e))) (Heap.get?_update_self _ hS' rfl) (by rw [Array.toList_push, hacc, List.map_append]; rfl) (by rw [List.length_append, hal]; rfl) ⟨?_, ?_, ?_⟩⟩)
      (by rw [hsz]; omega) (by show (acc.push (Value.ref h.objs.size)).size ≤ sizeLine + 1; rw [Array.size_push, hsz]; omega)
    · refine List.pairwise_append.mpr ⟨G.rise, List.pairwise_singleton _ _, fun a ha b hb => ?_⟩
      rw [List.mem_singleton.mp hb]
      exact G.there ha
    · intro a ha
      exact (List.mem_append.mp ha).elim (G.above a) fun q => (List.mem_singleton.mp q) ▸ hSl
    · intro j b hj
      rcases Nat.lt_trichotomy j as.length with lt | h1 | gt
      · rw [List.getElem?_append_left lt] at hj
        obtain ⟨x', y', e1, e2, e3⟩ := G.pairs j b hj
        have hb := G.above b (List.mem_of_getElem? hj)
        obtain ⟨q1, q2, q3, q4⟩ := apart hb
        exact ⟨x', y', e1, e2, up b _ (Nat.ne_of_gt hb) (hkp b _ q1 q2 q3 q4 e3)⟩
      · subst h1
        obtain rfl : _ = b := Option.some.inj (by simpa using hj)
        exact ⟨_, _, by rw [hal]; exact Array.getElem?_eq_getElem hix, by rw [hal]; exact Array.getElem?_eq_getElem hiy, up _ _ (Nat.ne_of_gt hSl) pr⟩
      · rw [List.getElem?_eq_none (by rw [List.length_append, List.length_singleton]; omega)] at hj
        cases hj
end
end Kz
set_option Elab.async false
set_option linter.all false
set_option maxRecDepth 100000
set_option maxHeartbeats 1000000
namespace Kz
open PySem
open PySem.Sem (wp)
theorem noLen : typeLookup (.type "zip") "__len__" = pure none := by rw [typeLookup_type, builtinLookup_eq_fast]; kernel_rfl
theorem noHint : typeLookup (.type "zip") "__length_hint__" = pure none := by rw [typeLookup_type, builtinLookup_eq_fast]; kernel_rfl
section
variable {prog : Program} {w : World} {A : Around} {E : Value → Shared → Prop} {s : Shared} {xs ys : Array Value}
theorem zl_extend {R : Result → Shared → Prop} {z TI TO i1 i2 l1 l2 S : Addr} {n : Nat} (hn : n = min xs.size ys.size) (hh : A.handled = none) (D : ZipApart z TI TO i1 i2 l1 l2)
    (zS : z < S) (tS : TI < S) (oS : TO < S) (s1 : i1 < S) (s2 : i2 < S) (l1S : l1 < S) (l2S : l2 < S) (small : n ≤ sizeLine) (res : Value) (c₀ : Nat)
    (st : ZSt s.heap z TI TO i1 i2 l1 l2 S 0) (hz0 : ∃ f0, IsZip s.heap z TI TO f0) (L1 : s.heap.IsList l1 xs) (L2 : s.heap.IsList l2 ys) (hS : s.heap.get? S = some { cls := .type "list", data := .seq #[] c₀ })
    (hR : ∀ h' tk acc c as, (∀ b o, b ≠ S → b ≠ z → b ≠ TO → b ≠ i1 → b ≠ i2 → s.heap.get? b = some o → h'.get? b = some o) →
      h'.get? S = some { cls := .type "list", dict := none, data := .seq acc c, slots := #[] } → as.length = n → ZG xs ys S h' as → acc.toList = as.map Value.ref → R (.ok (.ret res)) { s with heap := h', toks := tk }) :
    wpAny (model prog w) A.in1 (Builtin.List.listExtendWith (.ref S) (.ref z) res)
      (fun r t => match r with | .done f => R (.ok f) t | .again c => c.quiet = true ∧ codeAny (model prog w) A c R t) (fun e t => R (.error e) t) s := by
  obtain ⟨f0, hz⟩ := hz0
  have ty : s.TypeIs (.ref z) "zip" := ⟨_, hz, rfl⟩
  rw [Builtin.List.listExtendWith]
  refine wpAny_bind (wpAny_typeOf ty ?_)
  have q1 : Builtin.List.listSameRef (.ref S) (.ref z) = false := by simp [Builtin.List.listSameRef, Nat.ne_of_gt zS]
  have q2 : (Value.type "zip" == Value.type "list") = false := by decide
  have q3 : (Value.type "zip" == Value.type "tuple") = false := by decide
  simp only [q1, q2, q3, Bool.or_false, Bool.false_eq_true, if_false]
  refine wpAny_bind (wpAny_pyIter_zip hz (wpAny_bind (wpAny_holding ?_)))
  rw [Builtin.List.listLengthHint]
  refine wpAny_bind (wpAny_specialOf ty noLen ?_)
  show wpAny _ A.in1 (specialOf (Value.ref z) (Str.ofString "__length_hint__") >>= _) _ _ _
  refine wpAny_bind (wpAny_specialOf ty noHint ?_)
  refine wpAny_pure ?_
  show wpAny _ A.in1 (rule "list.extend.makes-room" >>= fun _ => Builtin.List.listTouch (.ref S) >>= fun _ => again (.builtin "list.extend.loop" ⟨[.ref S, .ref z, res], []⟩)) _ _ _
  have longer := Heap.get?_update_self (Obj.mapSeq (·.push Value.none)) hS rfl
  have hS₃ := Heap.get?_update_self (Obj.mapSeq (·.pop)) longer rfl
  have oth : ∀ c ob, c ≠ S → s.heap.get? c = some ob → ((s.heap.update S (Obj.mapSeq (·.push Value.none))).update S (Obj.mapSeq (·.pop))).get? c = some ob := fun _ _ ne e =>
    (Heap.get?_update_other _ _ ne.symm).trans ((Heap.get?_update_other _ _ ne.symm).trans e)
  refine wpAny_bind (wpAny_rule (wpAny_bind (show wpAny _ A.in1 (updateSeq S (·.push .none) >>= fun _ => updateSeq S (·.pop)) _ _ _ from wpAny_bind (wpAny_updateSeq hS rfl (wpAny_updateSeq (hz := by seq_fits) longer rfl ?_)))))
  refine wpAny_pure ⟨plainId_quiet PySem.F.plain_extend_loop _, ?_⟩
  exact zl_loop (s := s) (h₁ := s.heap) hn hh D zS tS oS s1 s2 l1S l2S small res hR n 0 _ s.toks _ #[] [] (Nat.sub_zero _) (Nat.zero_le _)
    (st.stays oth (Nat.ne_of_lt zS) (Nat.ne_of_lt tS) (Nat.ne_of_lt oS) (Nat.ne_of_lt s1) (Nat.ne_of_lt s2)) (L1.at fun o e => oth _ o (Nat.ne_of_lt l1S) e) (L2.at fun o e => oth _ o (Nat.ne_of_lt l2S) e)
    (fun b o q0 _ _ _ _ e => oth b o q0 e) hS₃ rfl rfl ⟨List.Pairwise.nil, (fun _ ha => nomatch ha), (fun j a hj => by simp at hj)⟩
theorem zl_init {R : Result → Shared → Prop} {z TI TO i1 i2 l1 l2 S : Addr} {n : Nat} (hn : n = min xs.size ys.size) (hh : A.handled = none) (D : ZipApart z TI TO i1 i2 l1 l2)
    (zS : z < S) (tS : TI < S) (oS : TO < S) (s1 : i1 < S) (s2 : i2 < S) (l1S : l1 < S) (l2S : l2 < S) (small : n ≤ sizeLine)
    (st : ZSt s.heap z TI TO i1 i2 l1 l2 S 0) (hz0 : ∃ f0, IsZip s.heap z TI TO f0) (L1 : s.heap.IsList l1 xs) (L2 : s.heap.IsList l2 ys) (hS : s.heap.get? S = some { cls := .type "list", data := .seq #[] })
    (hR : ∀ h' tk acc c as, (∀ b o, b ≠ S → b ≠ z → b ≠ TO → b ≠ i1 → b ≠ i2 → s.heap.get? b = some o → h'.get? b = some o) →
      h'.get? S = some { cls := .type "list", dict := none, data := .seq acc c, slots := #[] } → as.length = n → ZG xs ys S h' as → acc.toList = as.map Value.ref → R (.ok (.ret .none)) { s with heap := h', toks := tk }) :
    wpAny (model prog w) A.in1 (Builtin.«list.__init__» ⟨[.ref S, .ref z], []⟩)
      (fun r t => match r with | .done f => R (.ok f) t | .again c => c.quiet = true ∧ codeAny (model prog w) A c R t) (fun e t => R (.error e) t) s := by
  obtain ⟨f0, hz⟩ := hz0
  show wpAny _ _ (do let old ← Builtin.List.listItems (.ref S); Builtin.List.listUpdate (.ref S) (fun _ => #[]); letGo old.toList.reverse; Builtin.List.listExtendWith (.ref S) (.ref z) .none) _ _ s
  refine wpAny_bind ?_
  rw [Builtin.List.listItems]
  refine wpAny_bind (wpAny_seqItems hS rfl (wpAny_pure (show wpAny _ _ (_ >>= _) _ _ s from ?_)))
  show wpAny _ _ (updateSeq S (fun _ => #[]) >>= fun _ => letGo (#[] : Array Value).toList.reverse >>= fun _ => Builtin.List.listExtendWith (.ref S) (.ref z) .none) _ _ s
  have bare := Heap.get?_update_self (Obj.mapSeq (fun _ => (#[] : Array Value))) hS rfl
  have oth : ∀ c ob, c ≠ S → s.heap.get? c = some ob → (s.heap.update S (Obj.mapSeq (fun _ => (#[] : Array Value)))).get? c = some ob := fun _ _ ne e => (Heap.get?_update_other _ _ ne.symm).trans e
  refine wpAny_bind (wpAny_updateSeq hS rfl (wpAny_bind (wpAny_letGo ?_)))
  exact zl_extend (s := { s with heap := s.heap.update S (Obj.mapSeq (fun _ => (#[] : Array Value))) }) hn hh D zS tS oS s1 s2 l1S l2S small .none _
    (st.stays oth (Nat.ne_of_lt zS) (Nat.ne_of_lt tS) (Nat.ne_of_lt oS) (Nat.ne_of_lt s1) (Nat.ne_of_lt s2)) ⟨f0, oth _ _ (Nat.ne_of_lt zS) hz⟩
    (L1.at fun o e => oth _ o (Nat.ne_of_lt l1S) e) (L2.at fun o e => oth _ o (Nat.ne_of_lt l2S) e) bare
    fun h' tk acc c as k => hR h' tk acc c as fun b o q0 q1 q2 q3 q4 e => k b o q0 q1 q2 q3 q4 (oth b o q0 e)
/-- list(z), z a zip object of two lists that was just made -/
theorem zl_call {z TI TO i1 i2 l1 l2 : Addr} {n : Nat} {Q : Value → Shared → Prop} (hn : n = min xs.size ys.size) (hh : A.handled = none) (D : ZipApart z TI TO i1 i2 l1 l2)
    (small : n ≤ sizeLine) (hz : IsZip s.heap z TI TO .none) (hTI : IsPair s.heap TI (.ref i1) (.ref i2)) (hTO : IsPair s.heap TO .none .none)
    (h1 : s.heap.IsListIter i1 l1 0) (h2 : s.heap.IsListIter i2 l2 0) (L1 : s.heap.IsList l1 xs) (L2 : s.heap.IsList l2 ys)
    (hQ : ∀ h' tk acc c as, (∀ b o, b ≠ z → b ≠ TO → b ≠ i1 → b ≠ i2 → s.heap.get? b = some o → h'.get? b = some o) →
      h'.get? s.heap.objs.size = some { cls := .type "list", dict := none, data := .seq acc c, slots := #[] } → as.length = n → ZG xs ys s.heap.objs.size h' as → acc.toList = as.map Value.ref → Q (.ref s.heap.objs.size) { s with heap := h', toks := tk }) :
    wpAny (model prog w) A (call (.type "list") [.ref z]) Q E s := by
  refine callType_codes (Q₁ := fun v t => v = .ref s.heap.objs.size ∧ t = { s with heap := s.heap.push { cls := .type "list", data := .seq #[] } }) PySem.F.called_list (PySem.F.typeCall_list_1 _) PySem.F.entry_list_init
    (code_list_new _ ⟨rfl, rfl⟩) fun v t got => ?_
  obtain ⟨rfl, rfl⟩ := got
  have hS : (Heap.push s.heap { cls := .type "list", data := .seq #[] }).get? s.heap.objs.size = some { cls := .type "list", data := .seq #[] } := Heap.get?_push_size _ rfl
  have up : ∀ {b : Addr} {o : Obj}, s.heap.get? b = some o → (s.heap.push { cls := .type "list", data := .seq #[] }).get? b = some o := fun e => Heap.get?_push_of_some _ e
  have b1 : i1 < s.heap.objs.size := by
    obtain ⟨_, e, _⟩ := id h1
    exact Heap.lt_size e
  have b2 : i2 < s.heap.objs.size := by
    obtain ⟨_, e, _⟩ := id h2
    exact Heap.lt_size e
  have c1 : l1 < s.heap.objs.size := by
    obtain ⟨_, e, _⟩ := id L1
    exact Heap.lt_size e
  have c2 : l2 < s.heap.objs.size := by
    obtain ⟨_, e, _⟩ := id L2
    exact Heap.lt_size e
  refine ⟨⟨_, hS, rfl⟩, PySem.F.args_list_init_2 _ _, zl_init (s := { s with heap := s.heap.push { cls := .type "list", data := .seq #[] } }) (A := A.in1) hn hh D (Heap.lt_size hz) (Heap.lt_size hTI) (Heap.lt_size hTO) b1 b2 c1 c2 small
    ⟨up hTI, h1.at fun o e => up e, h2.at fun o e => up e, .inl ⟨up hz, _, _, up hTO⟩⟩ ⟨_, up hz⟩ (L1.at fun o e => up e) (L2.at fun o e => up e) hS fun h' tk acc c as k hS' hl G hacc => ?_⟩
  exact ⟨rfl, hQ h' tk acc c as (fun b o q1 q2 q3 q4 e => k b o (Nat.ne_of_lt (Heap.lt_size e)) q1 q2 q3 q4 (up e)) hS' hl G hacc⟩
end
end Kz
set_option Elab.async false
set_option linter.all false
set_option maxRecDepth 100000
set_option maxHeartbeats 1000000
namespace Kz
open PySem PySem.Spec PyProof.Rows L2
/-- pairs tracked at their addresses -/
def putP : Hp → List Addr → List (V × V) → Hp
  | H, a :: as, p :: ps => putP (upd H a (.tup [p.1, p.2])) as ps
  | H, _, _ => H
theorem putP_off {b : Addr} : ∀ (as : List Addr) (ps : List (V × V)) (H : Hp), b ∉ as → putP H as ps b = H b
  | [], _, _, _ => rfl
  | _ :: _, [], _, _ => rfl
  | a :: as, p :: ps, H, no => by
    show putP (upd H a (.tup [p.1, p.2])) as ps b = H b
    have n1 : b ∉ as := fun z => no (List.mem_cons_of_mem _ z)
    have n2 : b ≠ a := fun z => no (by rw [z]; exact List.mem_cons_self)
    rw [putP_off as ps _ n1, upd_ne n2]
theorem putP_at : ∀ (as : List Addr) (ps : List (V × V)) (H : Hp), as.Nodup → ∀ (j : Nat) (a : Addr) (p : V × V), as[j]? = some a → ps[j]? = some p → putP H as ps a = some (.tup [p.1, p.2])
  | [], _, _, _, j, a, p, h, _ => by simp at h
  | _ :: _, [], _, _, j, a, p, _, h => by simp at h
  | a :: as, p :: ps, H, nd, 0, b, q, h1, h2 => by
    cases Option.some.inj h1
    cases Option.some.inj h2
    show putP (upd H a (.tup [p.1, p.2])) as ps a = _
    rw [putP_off as ps _ (List.nodup_cons.mp nd).1, upd_same]
  | a :: as, p :: ps, H, nd, j + 1, b, q, h1, h2 => putP_at as ps _ (List.nodup_cons.mp nd).2 j b q h1 h2
/-- list(zip(xs, ys)): a new list of new pairs -/
def rLZ (K : PySem.W.Frag) : List V → Hp → VK → Prop := fun vs H Q => ∃ (a b : Addr) (xs ys : List V), vs = [.ref a, .ref b] ∧ SqL K H a xs ∧ SqL K H b ys ∧
  ∀ (H' : Hp) (l : Addr) (ts : List Addr), (∀ b o, H b = some o → H' b = some o) → H l = none → (∀ t ∈ ts, H t = none) → H' l = some (.lst (ts.map V.ref)) → ts.length = min xs.length ys.length →
    (∀ (j : Nat) (t : Addr), ts[j]? = some t → ∃ x y, xs[j]? = some x ∧ ys[j]? = some y ∧ H' t = some (.tup [x, y])) → Q (.ref l) H'
def tLZ (K : PySem.W.Frag) (ta : TA) : TE := fun σ H Q => ta σ H fun vs H1 => rLZ K vs H1 Q
section
variable {X : Cx} {e1 e2 : Expr} {ta : TA} {p p2 pos pos2 : Pos}
theorem pairs_laid {pins : List (Addr × Obj)} {σ : L2.St} {H : Hp} {s : Shared} {h' : Heap} {tk : Nat} {S : Addr} {xs ys : List V} {us ws : List Value} {acc : Array Value} {c : Nat} {as : List Addr}
    (I : Inv X pins σ H s) (rx : Vals xs us) (ry : Vals ys ws) (low : s.heap.objs.size ≤ S) (small : as.length ≤ sizeLine)
    (k : ∀ b o, s.heap.get? b = some o → h'.get? b = some o) (hS : h'.get? S = some { cls := .type "list", dict := none, data := .seq acc c, slots := #[] })
    (hl : as.length = min xs.length ys.length) (G : ZG us.toArray ws.toArray S h' as) (hacc : acc.toList = as.map Value.ref) :
    ∃ H' : Hp, (∀ b o, H b = some o → H' b = some o) ∧ H S = none ∧ (∀ t ∈ as, H t = none) ∧ H' S = some (.lst (as.map V.ref)) ∧
      (∀ (j : Nat) (t : Addr), as[j]? = some t → ∃ x y, xs[j]? = some x ∧ ys[j]? = some y ∧ H' t = some (.tup [x, y])) ∧ Inv X pins σ H' { s with heap := h', toks := tk } := by
  have nS : S ∉ as := fun z => Nat.lt_irrefl _ (G.above _ z)
  have nd : as.Nodup := List.Pairwise.imp (fun {a b} (h : a < b) => Nat.ne_of_lt h) G.rise
  have new : ∀ t ∈ as, H t = none := fun t ht => I.hok.fresh (Nat.le_trans low (Nat.le_of_lt (G.above t ht)))
  have newS : H S = none := I.hok.fresh low
  obtain ⟨H', eH⟩ : ∃ H', H' = putP (upd H S (.lst (as.map V.ref))) as (xs.zip ys) := ⟨_, rfl⟩
  have off : ∀ b, b ∉ as → b ≠ S → H' b = H b := fun b h1 h2 => by rw [eH, putP_off as _ _ h1, upd_ne h2]
  have atP : ∀ (j : Nat) (t : Addr), as[j]? = some t → ∃ x y, xs[j]? = some x ∧ ys[j]? = some y ∧ H' t = some (.tup [x, y]) := fun j t ht => by
    have hj : j < as.length := (List.getElem?_eq_some_iff.mp ht).1
    have jx : j < xs.length := by omega
    have jy : j < ys.length := by omega
    refine ⟨xs[j], ys[j], List.getElem?_eq_getElem jx, List.getElem?_eq_getElem jy, ?_⟩
    rw [eH]
    exact putP_at as (xs.zip ys) _ nd j t (xs[j], ys[j]) ht (by rw [List.getElem?_zip_eq_some]; exact ⟨List.getElem?_eq_getElem jx, List.getElem?_eq_getElem jy⟩)
  have kp : ∀ b u, H b = some u → H' b = some u := fun b u e => by
    exact (off b (fun z => by have y := new b z; rw [e] at y; cases y) (fun z => by have y := newS; rw [← z, e] at y; cases y)).trans e
  have eS : H' S = some (.lst (as.map V.ref)) := by rw [eH, putP_off as _ _ nS, upd_same]
  have lows : ∀ b o, s.heap.get? b = some o → b ∉ as ∧ b ≠ S := fun b o e => by
    have lt := Heap.lt_size e
    exact ⟨fun z => Nat.lt_irrefl _ (Nat.lt_trans (Nat.lt_of_lt_of_le lt low) (G.above b z)), Nat.ne_of_lt (Nat.lt_of_lt_of_le lt low)⟩
  refine ⟨H', kp, newS, new, eS, atP, ?_⟩
  refine I.call' (ch := []) rfl ⟨fun b o q _ _ _ => k b o q, fun b o q _ _ _ => ⟨o.slots, k b o q⟩, fun b o q n _ => ?_, fun b o q _ => ⟨o, k b o q⟩, fun b xs q => kp b _ q, fun b o u q => kp b _ q, fun b ps q => ⟨#[], by rw [kp b _ q]; simp⟩⟩ (fun b u q => ?_) I.bare fun b z => by simp at z
  · obtain ⟨z1, z2⟩ := lows b o q
    rw [off b z1 z2]
    exact n
  · by_cases hb : b ∈ as
    · obtain ⟨j, hj⟩ := List.mem_iff_getElem?.mp hb
      obtain ⟨x, y, e1, e2, e3⟩ := atP j b hj
      rw [e3] at q
      cases q
      obtain ⟨u, v, f1, f2, f3⟩ := G.pairs j b hj
      obtain ⟨u', g1, r1⟩ := rx.get e1
      obtain ⟨v', g2, r2⟩ := ry.get e2
      rw [List.getElem?_toArray] at f1 f2
      cases Option.some.inj (f1.symm.trans g1)
      cases Option.some.inj (f2.symm.trans g2)
      exact ⟨by show 2 ≤ sizeLine; decide, [u, v], .cons r1 (.cons r2 .nil), ⟨_, f3, rfl, _, rfl⟩⟩
    · by_cases hb2 : b = S
      · rw [hb2] at q ⊢
        rw [eS] at q
        cases q
        refine ⟨by rw [List.length_map]; omega, acc.toList, c, by rw [hacc]; exact LiI.vals_refs as, ?_⟩
        rw [Array.toArray_toList]
        exact hS
      · rw [off b hb hb2] at q
        exact (I.hok b u q).stay (fun d v _ y => k d v y) (fun d y => kp d _ y) fun d xs y => kp d _ y
theorem pe_listZip (hc : X.calm = true) (hg : Gl X "list") (hm : X.mg "list" = none) (hg2 : Gl X "zip") (hm2 : X.mg "zip" = none) (ha : PA X [e1, e2] ta)
    (hs2 : starEach [e1, e2] X.env = (false, eval e1 X.env) :: starEach [e2] X.env := by rfl) (hpl : (backTo pos2 (starEach [e2] X.env)).any (·.1) = false := by rfl)
    (hs : starEach [.Call (.Name "zip" p2) [e1, e2] [] pos2] X.env = (false, eval (.Call (.Name "zip" p2) [e1, e2] [] pos2) X.env) :: starEach [] X.env := by rfl) :
    PE X (.Call (.Name "list" p) [.Call (.Name "zip" p2) [e1, e2] [] pos2] [] pos) (tLZ X.K ta) := by
  refine ⟨fun pins s σ H Q I want => ?_⟩
  refine wpAny_Call_Name_kw (ld_blt I hg hm (show bootBuiltins "list" = some (.type "list") by decide +kernel) ?_)
  refine PyProof.Rows.callWith_type1 (rest := []) ?_ hs rfl
  rw [hs]
  show wpAny _ _ (spliced ((false, eval (.Call (.Name "zip" p2) [e1, e2] [] pos2) X.env) :: backTo pos (starEach [] X.env))) _ _ s
  refine Calls.spliced_cons ?_
  refine wpAny_Call_Name_kw (ld_blt I hg2 hm2 PyProof.Rows.boot_zip ?_)
  refine PyProof.Rows.callWith_type1 (thn (ha.run pos2 pins s σ H _ I want) fun us s1 ⟨vs, H1, I1, r1, q1⟩ => ?_) hs2 hpl
  obtain ⟨a, b, xs, ys, rfl, hqx, hqy, q⟩ := q1
  obtain ⟨u1, us1, rfl, ra, r2⟩ : ∃ u us', us = u :: us' ∧ RelV (.ref a) u ∧ Vals [.ref b] us' := by
    cases r1 with
    | cons r rr => exact ⟨_, _, rfl, r, rr⟩
  obtain ⟨u2, rfl, rb⟩ := vals1 r2
  cases ra
  cases rb
  obtain ⟨its, rv, p1, small1⟩ := I1.list hqx
  obtain ⟨its2, rv2, p2', small2⟩ := I1.list hqy
  have la : a < Array.size s1.heap.objs := p1.lt
  have lb : b < s1.heap.objs.size := p2'.lt
  have ln1 := rv.length
  have ln2 := rv2.length
  refine call_zip_2 p1.isList p2'.isList fun h' hz hTI hTO h1 h2 hsz k => ?_
  refine Calls.spliced_nil ?_
  have D := PySem.W.ktu_apart s1.heap.objs.size a b la lb
  have nn : min xs.length ys.length = min its.toArray.size its2.toArray.size := by rw [List.size_toArray, List.size_toArray, ln1, ln2]
  have sm : min xs.length ys.length ≤ sizeLine := Nat.le_trans (Nat.min_le_left _ _) small1
  refine zl_call (s := { s1 with heap := h' }) nn (I1.ok.hd hc) D sm hz hTI hTO h1 h2 (p1.isList.at fun o e => k _ o e) (p2'.isList.at fun o e => k _ o e) fun h2' tk acc c as k2 hS hl G hacc => ?_
  have kk : ∀ b o, s1.heap.get? b = some o → h2'.get? b = some o := fun b o e => by
    have lt := Heap.lt_size e
    have ne : ∀ i : Nat, b ≠ s1.heap.objs.size + i := fun i => Nat.ne_of_lt (Nat.lt_of_lt_of_le lt (Nat.le_add_right _ _))
    exact k2 b o (ne 4) (ne 3) (ne 0) (ne 1) (k b o e)
  have low : s1.heap.objs.size ≤ h'.objs.size := by rw [hsz]; exact Nat.le_add_right _ _
  obtain ⟨H', k1, n1, n2, g1, g2, J⟩ := pairs_laid (tk := tk) I1 rv rv2 low (by rw [hl]; exact sm) kk hS hl G hacc
  exact ⟨.ref _, H', J, rfl, q H' _ as k1 n1 n2 g1 hl g2⟩
end
end Kz
set_option Elab.async false
set_option linter.all false
set_option maxRecDepth 100000
set_option maxHeartbeats 1000000
namespace Kz
open PySem PySem.Spec PyProof.Rows L2
end Kz
set_option Elab.async false
set_option linter.all false
set_option maxRecDepth 100000
set_option maxHeartbeats 1000000
namespace Kz
open PySem PySem.Spec PyProof.Rows L2
end Kz
set_option Elab.async false
set_option linter.all false
set_option maxRecDepth 100000
namespace Kc
open PySem PySem.Spec PyProof.Rows L2 Kx TL
theorem same_new {H : Hp} {p : Addr} {o : HO} (h : H p = none) : Same H (upd H p o) := fun b x e => by
  rw [upd_ne (ne_of_none e h)]
  exact e
abbrev abc : Str := "abcdefghijklmnopqrstuvwxyz"
def wordB : V → Bool
  | .str z => decide (1 ≤ (z.length : Int)) && (decide ((z.length : Int) ≤ 8) && z.cps.toList.all fun c => decide (c ∈ abc.cps.toList))
  | _ => false
/-- a value of which isinstance(.., str) is known -/
inductive Thing (K : PySem.W.Frag) (H : Hp) : V → Prop
  | str (z : Str) (h : z.length ≤ sizeLine) : Thing K H (.str z)
  | non : Thing K H .non
  | bl (b : Bool) : Thing K H (.bl b)
  | int (i : Int) : Thing K H (.int i)
  | lst {a : Addr} {xs : List V} (h : H a = some (.lst xs)) : Thing K H (.ref a)
  | tup {a : Addr} {xs : List V} (h : H a = some (.tup xs)) : Thing K H (.ref a)
  | dct {a : Addr} {kvs : List (Key × V)} (h : H a = some (.dK kvs)) : Thing K H (.ref a)
theorem Thing.same {K : PySem.W.Frag} {H H' : Hp} {v : V} (t : Thing K H v) (s : Same H H') : Thing K H' v := by
  cases t with
  | str z h => exact .str z h
  | non => exact .non
  | bl b => exact .bl b
  | int i => exact .int i
  | lst h => exact .lst (s _ _ h)
  | tup h => exact .tup (s _ _ h)
  | dct h => exact .dct (s _ _ h)
/-- its type, and whether that is str -/
def isStr : V → Bool
  | .str _ => true
  | _ => false
theorem Thing.ty {K : PySem.W.Frag} {H : Hp} {v : V} (t : Thing K H v) :
    ∃ u, TyX K H v u ∧ PySem.W.kitOne K u (.type "str") = some (isStr v) := by
  cases t with
  | str z h => exact ⟨_, .base (.str z), kit_ty (show kitB "str" "str" = some true by decide +kernel)⟩
  | non => exact ⟨_, .base .non, kit_ty (by decide +kernel)⟩
  | bl b => exact ⟨_, .base (.bl b), kit_ty (show kitB "bool" "str" = some false by decide +kernel)⟩
  | int i => exact ⟨_, .base (.int i), kit_ty (show kitB "int" "str" = some false by decide +kernel)⟩
  | lst h => exact ⟨_, .base (.lst h), kit_ty (show kitB "list" "str" = some false by decide +kernel)⟩
  | tup h => exact ⟨_, .base (.tup h), kit_ty (show kitB "tuple" "str" = some false by decide +kernel)⟩
  | dct h => exact ⟨_, .base (.dK h), kit_ty (show kitB "dict" "str" = some false by decide +kernel)⟩
def Pot (H : Hp) (p : Addr) : Prop := ∃ x y : Int, 0 ≤ x ∧ 0 ≤ y ∧ y < 2147483647 ∧ H p = some (.lst [.int x, .int y])
/-- all but p stays -/
def But (p : Addr) (H H' : Hp) : Prop := ∀ b o, b ≠ p → H b = some o → H' b = some o
theorem But.refl {p : Addr} {H : Hp} : But p H H := fun _ _ _ e => e
theorem But.trans {p : Addr} {H H1 H2 : Hp} (a : But p H H1) (b : But p H1 H2) : But p H H2 := fun c o n e => b c o n (a c o n e)
theorem But.put {p : Addr} {H H1 : Hp} {o : HO} (a : But p H H1) : But p H (upd H1 p o) := fun b x n e => by
  rw [upd_ne n]
  exact a b x n e
theorem But.new {p q : Addr} {H H1 : Hp} {o : HO} (a : But p H H1) (n : H1 q = none) : But p H (upd H1 q o) := fun b x nb e => by
  rw [upd_ne (ne_of_none (a b x nb e) n)]
  exact a b x nb e
theorem Same.but {p : Addr} {H H' : Hp} (s : Same H H') : But p H H' := fun b o _ e => s b o e
theorem Pot.new {H : Hp} {p q : Addr} {o : HO} (h : Pot H p) (n : H q = none) : Pot (upd H q o) p := by
  obtain ⟨x, y, h1, h2, h3, e⟩ := h
  exact ⟨x, y, h1, h2, h3, same_new n _ _ e⟩
theorem Thing.but {K : PySem.W.Frag} {H H' : Hp} {p : Addr} {v : V} (t : Thing K H v) (n : v ≠ .ref p) (s : But p H H') : Thing K H' v := by
  cases t with
  | str z h => exact .str z h
  | non => exact .non
  | bl b => exact .bl b
  | int i => exact .int i
  | lst h => exact .lst (s _ _ (fun e => n (by rw [e])) h)
  | tup h => exact .tup (s _ _ (fun e => n (by rw [e])) h)
  | dct h => exact .dct (s _ _ (fun e => n (by rw [e])) h)
theorem joinL_len : ∀ ps : List (List Nat), (joinL [] ps).length = (ps.map List.length).sum
  | [] => rfl
  | [p] => by simp [joinL]
  | p :: r :: rs => by
    show (p ++ ([] ++ joinL [] (r :: rs))).length = p.length + ((r :: rs).map List.length).sum
    rw [List.nil_append, List.length_append, joinL_len (r :: rs)]
theorem sum_ones : ∀ ys : List Str, (∀ y ∈ ys, y.length = 1) → (ys.map (·.length)).sum = ys.length
  | [], _ => rfl
  | y :: r, h => by
    rw [List.map_cons, List.sum_cons, sum_ones r fun z hz => h z (List.mem_cons_of_mem _ hz), h y List.mem_cons_self, List.length_cons]
    omega
theorem join_len (ys : List Str) : (Txt.join "" ys).length = (ys.map (·.length)).sum := by
  have e : Txt.join "" ys = Str.join "" ys := by
    unfold Txt.join
    rw [StrLaws.glued_eq_join]
  rw [e, len_tl, tl_join, show tl (Str.ofString "") = [] from rfl, joinL_len, List.map_map]
  congr 1
theorem SqL.but {K : PySem.W.Frag} {H H' : Hp} {p a : Addr} {xs : List V} (h : SqL K H a xs) (n : a ≠ p) (b : But p H H') : SqL K H' a xs := by
  rcases h with (e | ⟨o, e⟩) | e
  · exact .inl (.inl (b _ _ n e))
  · exact .inl (.inr ⟨o, b _ _ n e⟩)
  · exact .inr e
theorem SqT.but {K : PySem.W.Frag} {H H' : Hp} {p a : Addr} {xs : List V} (h : SqT K H a xs) (n : a ≠ p) (b : But p H H') : SqT K H' a xs := by
  rcases h with (e | ⟨o, e⟩) | e
  · exact .inl (.inl (b _ _ n e))
  · exact .inl (.inr ⟨o, b _ _ n e⟩)
  · exact .inr e
theorem SqT.same {K : PySem.W.Frag} {H H' : Hp} {a : Addr} {xs : List V} (h : SqT K H a xs) (b : Same H H') : SqT K H' a xs := by
  rcases h with (e | ⟨o, e⟩) | e
  · exact .inl (.inl (b _ _ e))
  · exact .inl (.inr ⟨o, b _ _ e⟩)
  · exact .inr e
theorem Pot.same {H H' : Hp} {p : Addr} (h : Pot H p) (s : Same H H') : Pot H' p := by
  obtain ⟨x, y, h1, h2, h3, e⟩ := h
  exact ⟨x, y, h1, h2, h3, s _ _ e⟩
theorem Pot.ne {H : Hp} {p q : Addr} (h : Pot H p) (n : H q = none) : q ≠ p := fun e => by
  obtain ⟨x, y, _, _, _, z⟩ := h
  rw [e, z] at n
  cases n
theorem But.none {p q : Addr} {H H' : Hp} (b : But p H H') (n : H' q = none) (ne : q ≠ p) : H q = none := by
  cases e : H q with
  | none => rfl
  | some o =>
    rw [b _ _ ne e] at n
    cases n
end Kc
set_option Elab.async false
set_option linter.all false
set_option maxRecDepth 100000
set_option maxHeartbeats 2000000
namespace Kx
open PySem PySem.Spec PyProof.Rows L2
/-- own classes, then the base's own line -/
def overB (tail : List Value) : List Value → Bool
  | .ref _ :: r => overB tail r
  | l => l == tail
inductive Over (tail : List Value) : List Value → Prop
  | here : Over tail tail
  | step {c : Addr} {r : List Value} : Over tail r → Over tail (.ref c :: r)
theorem over_of {tail : List Value} : ∀ {l : List Value}, overB tail l = true → Over tail l := by
  intro l
  fun_induction overB tail l with
  | case1 c r ih => exact fun h => .step (ih h)
  | case2 l _ => exact fun h => by rw [beq_iff_eq.mp h]; exact .here
/-- what a built-in base gives to the own classes over it -/
structure Bas (B newId initId : String) (tail : List Value) : Prop where
  base : ExcBaseFacts B newId initId tail
  sup : PySem.W.KxsFacts B initId
  pass : ∀ self : Value, PySem.refuseLoop self "__setattr__" tail = pure ()
  obj : tail.contains (.type "object") = true
  some : tail.isEmpty = false
abbrev tailOf (B : String) : List Value := [.type B, .type "Exception", .type "BaseException", .type "object"]
theorem basV : Bas "ValueError" "ValueError.__new__" "ValueError.__init__" (tailOf "ValueError") := ⟨F.excBase_ValueError, PySem.W.kxs_ValueError, F.store_ValueError.passes, by decide +kernel, rfl⟩
section
variable {B newId initId : String} {tail l : List Value}
theorem Over.pass (b : Bas B newId initId tail) (o : Over tail l) (self : Value) : PySem.refuseLoop self "__setattr__" l = pure () := by
  induction o with
  | here => exact b.pass self
  | step _ ih => exact (PySem.refuseLoop_ref ..).trans ih
theorem Over.has (o : Over tail l) (Y : String) : l.contains (.type Y) = tail.contains (.type Y) := by
  induction o with
  | here => rfl
  | step _ ih => rw [List.contains_cons, ih]; rfl
theorem Over.ne (b : Bas B newId initId tail) (o : Over tail l) : l.isEmpty = false := by
  cases o with
  | here => exact b.some
  | step _ => rfl
end
section
open PySem.W PySem.Calls PySem.HandSPX PySem.OEX
open PySem.Builtin PySem.Builtin.ObjectAttr
variable {prog : Program} {w : World} {A : Around} {R : Result → Shared → Prop} {hp : Heap} {g : Array GenState} {d : Drawn} {t : Nat} {os : OsState}
variable {B newId initId : String} {tail : List Value} {K : Frag} {nm : Str} {tk : Tok} {v : Value} {x C dx : Addr} {fv : Array Value} {cd : ClassData}
/-- x.nm = v, x an exception that has no dict as yet -/
theorem set_new (b : Bas B newId initId tail) (X : K.In hp) (at_ : hp.get? x = some { cls := .ref C, data := .fields fv }) (hc : clsIn K C = some cd) (ov : Over tail cd.mro) (dict : cd.hasDict = true) (no : findIn K (.ref C) nm = some none)
    (then_ : ∀ h2 tk2 dy, (∀ z o, z ≠ x → hp.get? z = some o → h2.get? z = some o) → hp.objs.size ≤ dy → dy ≠ x → h2.get? x = some { cls := .ref C, dict := some dy, data := .fields fv } → h2.Ns1 dy (fun y => if y = nm then some v else none) → R (.ok (.ret .none)) ⟨h2, g, d, tk2, os⟩) :
    codeAny (model prog w) A (.call (.builtin "object.__setattr__") ⟨[.ref x, .str nm tk, v], []⟩) R ⟨hp, g, d, t, os⟩ := by
  have inst : InstAt hp x { cls := .ref C, data := .fields fv } C none := ⟨at_, rfl, rfl, trivial⟩
  have sf := F.store_object
  have hob : cd.mro.contains (.type "object") = true := (ov.has "object").trans b.obj
  have far : x ≠ hp.objs.size := Nat.ne_of_lt (Heap.lt_size at_)
  have isO : Looks (model prog w) hp (isInstance (.ref x) (.type "object")) true := inst.type.andThen (looks_mroIn X (by unfold mroIn; rw [hc, Option.bind_some, if_neg (by rw [ov.ne b]; decide), hob]))
  refine codeAny_call_builtin sf.slot.plain sf.entry (@check_slot (model prog w) _ _ ⟨hp, g, d, t, os⟩ "object.__setattr__" "object" "__setattr__" (.ref x) [.str nm tk, v] [] _ sf.kind sf.split isO (sf.args (.ref x) (.str nm tk) v) ?_)
  have line : Looks (model prog w) hp (mroOf (.ref C)) cd.mro := (looks_clsIn X hc).andThen .now
  have taker : Looks (model prog w) hp (storeTaker? none) none := .now
  have cls : Looks (model prog w) hp (classData C) cd := looks_clsIn X hc
  rw [osa_eq, refuse_eq]
  refine wpAny_bind (wpAny_bind (inst.type.at (wpAny_bind (line.at ?_))))
  rw [ov.pass b]
  refine wpAny_pure (wpAny_bind (inst.type.at (wpAny_bind ((looks_findIn X no).at (wpAny_bind (taker.at ?_))))))
  show wpAny _ _ (storeInOwnDict (.ref x) (.ref C) (.str nm tk) nm v false) _ _ _
  obtain ⟨a1, a2, a3, a4, a5, a6, a7, a8, a9, a10, a11⟩ := cd
  dsimp only at dict
  subst dict
  (unfold storeInOwnDict; unfold ownDictForStores)
  repeat (first | with_reducible refine store_in_new ?_ ?_ | with_reducible refine wpAny_loadPart_at at_ ?_ | with_reducible refine cls.at ?_ | wp_step)
  · refine ⟨_, #[], _, (Heap.get?_update_ne _ _ _ _ far.symm).trans (Heap.get?_push_at rfl rfl), rfl, ?_⟩
    exact ⟨fun e he => absurd he (by simp), fun _ => rfl⟩
  · intro h2 tk2 hn2 hs2
    have at2 : (hp.push { cls := .type "dict", data := .dict #[] }).get? x = some { cls := .ref C, data := .fields fv } := Heap.get?_push_of_some _ at_
    refine then_ h2 tk2 hp.objs.size (fun z o hz ho => ?_) (Nat.le_refl _) far.symm ((hs2.2 x far).trans (Heap.get?_update_self _ at2 rfl)) hn2
    have zs : z ≠ hp.objs.size := Nat.ne_of_lt (Heap.lt_size ho)
    rw [hs2.2 z zs, Heap.get?_update_ne _ _ _ _ hz]
    exact (Heap.get?_push_of_some _ ho : _)
/-- .. that has its dict -/
theorem set_more {m0 : Str → Option Value} {nl : List Str} (b : Bas B newId initId tail) (X : K.In hp) (at_ : hp.get? x = some { cls := .ref C, dict := some dx, data := .fields fv }) (hns : hp.Ns1 dx m0) (hw : Within m0 nl) (few : nl.length ≤ 1000) (hc : clsIn K C = some cd) (ov : Over tail cd.mro) (dict : cd.hasDict = true)
    (no : findIn K (.ref C) nm = some none) (then_ : ∀ h2 tk2, (∀ z o, z ≠ dx → hp.get? z = some o → h2.get? z = some o) → h2.Ns1 dx (fun y => if y = nm then some v else m0 y) → R (.ok (.ret .none)) ⟨h2, g, d, tk2, os⟩) :
    codeAny (model prog w) A (.call (.builtin "object.__setattr__") ⟨[.ref x, .str nm tk, v], []⟩) R ⟨hp, g, d, t, os⟩ := by
  obtain ⟨od, _, _, hod, _, _⟩ := hns.count hw
  have inst : InstAt hp x { cls := .ref C, dict := some dx, data := .fields fv } C (some od) := ⟨at_, rfl, rfl, hod⟩
  have sf := F.store_object
  have hob : cd.mro.contains (.type "object") = true := (ov.has "object").trans b.obj
  have isO : Looks (model prog w) hp (isInstance (.ref x) (.type "object")) true := inst.type.andThen (looks_mroIn X (by unfold mroIn; rw [hc, Option.bind_some, if_neg (by rw [ov.ne b]; decide), hob]))
  refine codeAny_call_builtin sf.slot.plain sf.entry (@check_slot (model prog w) _ _ ⟨hp, g, d, t, os⟩ "object.__setattr__" "object" "__setattr__" (.ref x) [.str nm tk, v] [] _ sf.kind sf.split isO (sf.args (.ref x) (.str nm tk) v) ?_)
  have line : Looks (model prog w) hp (mroOf (.ref C)) cd.mro := (looks_clsIn X hc).andThen .now
  have taker : Looks (model prog w) hp (storeTaker? none) none := .now
  have cls : Looks (model prog w) hp (classData C) cd := looks_clsIn X hc
  rw [osa_eq, refuse_eq]
  refine wpAny_bind (wpAny_bind (inst.type.at (wpAny_bind (line.at ?_))))
  rw [ov.pass b]
  refine wpAny_pure (wpAny_bind (inst.type.at (wpAny_bind ((looks_findIn X no).at (wpAny_bind (taker.at ?_))))))
  show wpAny _ _ (storeInOwnDict (.ref x) (.ref C) (.str nm tk) nm v false) _ _ _
  obtain ⟨a1, a2, a3, a4, a5, a6, a7, a8, a9, a10, a11⟩ := cd
  dsimp only at dict
  subst dict
  (unfold storeInOwnDict; unfold ownDictForStores)
  repeat (first | with_reducible refine store_in_old hns hw few ?_ | with_reducible refine wpAny_loadPart_at at_ ?_ | with_reducible refine cls.at ?_ | wp_step)
  intro h2 tk2 hn2 hs2
  exact then_ h2 tk2 (fun z o hz ho => (hs2.2 z hz).trans ho) hn2
end
/-- what the written part says of the class at C, over the base B -/
structure OexB (K : PySem.W.Frag) (C : Addr) (B newId initId : String) (tail : List Value) : Prop where
  bas : Bas B newId initId tail
  cls : ∃ nm q N bs bm sn sub ab col dd k0 k1 k2 k3 k5, K.lookup C = some (excClassObj nm q C N bs bm true sn sub ab col dd k0 k1 k2 k3 k5 newId) ∧ Over tail bm
  set_ : PySem.W.findIn K (.ref C) "__setattr__" = some (some (.builtin "object.__setattr__"))
  sub_ : PySem.W.subIn K (.ref C) (.type "BaseException") = some true
  typ_ : PySem.W.typeIn K (.ref C) = some (.type "type")
  keep_ : PySem.W.keepIn K (.ref C) = true
section
variable {X : Cx} {pins : List (Addr × Obj)} {σ : L2.St} {H : Hp} {s : Shared} {a C dx : Addr} {f : Str} {y : V} {u : Value} {fs : List (Str × V)} {Q : Unit → Shared → Prop} {E : Value → Shared → Prop} {A : Around} {B newId initId : String} {tail : List Value}
theorem OexB.data (T : OexB X.K C B newId initId tail) : ∃ (cd : ClassData) (bm : List Value), PySem.W.clsIn X.K C = some cd ∧ cd.hasDict = true ∧ Over tail bm ∧ cd.mro = .ref C :: bm := by
  obtain ⟨nm, q, N, bs, bm, sn, sub, ab, col, dd, k0, k1, k2, k3, k5, hC, ov⟩ := T.cls
  exact ⟨_, bm, by unfold PySem.W.clsIn; rw [hC] <;> rfl, rfl, ov, rfl⟩
theorem osb_new (T : OexB X.K C B newId initId tail) (I : Inv X pins σ H s) (e : H a = some (exo a C none)) (no : PySem.W.findIn X.K (.ref C) f = some none) (ry : RelV y u)
    (go : ∀ dx s2, H dx = none → dx ≠ a → Inv X pins σ (upd (upd H dx (exd dx [(f, y)])) a (exo a C (some dx))) s2 → Q () s2) : wpAny (model X.prog X.w) A (setAttr (.ref a) f u) Q E s := by
  obtain ⟨cd, bm, hcl, hd, ov, mr⟩ := T.data
  obtain ⟨targs, ho⟩ := exo_at I.hok e
  obtain ⟨hp, g, d, t, os⟩ := s
  refine PySem.W.set_plain I.kIn (ox := { cls := .ref C, dict := none, data := .fields #[.ref targs, .none, .none, .none, .bool false, .none] }) (od := none) ⟨ho, rfl, rfl, trivial⟩ T.set_ ?_
  refine set_new T.bas I.kIn ho hcl (by rw [mr]; exact .step ov) hd no fun h2 tk2 dz keep fresh apart hx hn => ?_
  have nz : H dz = none := I.hok.fresh fresh
  have below : ∀ {b : Addr} {o : Obj}, hp.get? b = some o → b ≠ dz := fun e => Nat.ne_of_lt (Nat.lt_of_lt_of_le (Heap.lt_size e) fresh)
  have offA : ∀ {b : Addr}, H b = none → b ≠ a := fun n z => by
    rw [z, e] at n
    cases n
  have two : ∀ {b : Addr} {o : HO}, H b = some o → b ≠ a → upd (upd H dz (exd dz [(f, y)])) a (exo a C (some dz)) b = some o := fun q n => by
    rw [upd_ne n, upd_ne (ne_of_none q nz)]
    exact q
  have U : Un X.fs [] H (upd (upd H dz (exd dz [(f, y)])) a (exo a C (some dz))) hp h2 := {
    keep := fun b o q n _ _ => keep b o (offA n) q
    slot := fun b o q n _ _ => ⟨o.slots, keep b o (offA n) q⟩
    free := fun b o q n _ => by rw [upd_ne (offA n), upd_ne (below q)]; exact n
    there := fun b o q _ => by
      by_cases c : b = a
      · subst c
        exact ⟨_, hx⟩
      · exact ⟨o, keep b o c q⟩
    tups := fun b xs q => two q (at_ne e q exo_tup)
    frzs := fun b o v q => two q (at_ne e q exo_frz)
    tbls := fun b ps q => ⟨#[], by rw [two q (at_ne e q exo_tbl)]; simp⟩ }
  refine go dz _ nz apart (I.un (t' := tk2) U fun b o q => ?_)
  by_cases hb : b = a
  · rw [hb, upd_same] at q
    cases q
    rw [hb]
    exact exo_ok hx
  · rw [upd_ne hb] at q
    by_cases hd : b = dz
    · rw [hd, upd_same] at q
      cases q
      rw [hd]
      exact exd_ok hn (relO_put (fs := []) ry fun _ => True.intro)
    · rw [upd_ne hd] at q
      refine (I.hok b o q).stay (fun c v hc z => keep c v ?_ z) (fun c hc => two hc (at_ne e hc exo_own)) fun c xs hc => two hc (at_ne e hc exo_tup)
      rcases hc with hc | hc
      · rw [hc]
        exact hb
      · exact at_ne e hc exo_own
theorem osb_old (T : OexB X.K C B newId initId tail) (I : Inv X pins σ H s) (e : H a = some (exo a C (some dx))) (ed : H dx = some (exd dx fs)) (few : fs.length ≤ 900) (no : PySem.W.findIn X.K (.ref C) f = some none) (ry : RelV y u)
    (go : ∀ s2, Inv X pins σ (upd H dx (exd dx ((f, y) :: fs))) s2 → Q () s2) : wpAny (model X.prog X.w) A (setAttr (.ref a) f u) Q E s := by
  obtain ⟨cd, bm, hcl, hd, ov, mr⟩ := T.data
  obtain ⟨targs, ho⟩ := exo_at I.hok e
  obtain ⟨names, hns, rel⟩ := exd_at I.hok ed
  obtain ⟨hp, g, d, t, os⟩ := s
  obtain ⟨od, _, _, hod, _, _⟩ := hns.count (within_of rel)
  refine PySem.W.set_plain I.kIn (ox := { cls := .ref C, dict := some dx, data := .fields #[.ref targs, .none, .none, .none, .bool false, .none] }) (od := some od) ⟨ho, rfl, rfl, hod⟩ T.set_ ?_
  refine set_more T.bas I.kIn ho hns (within_of rel) (by rw [List.length_map]; omega) hcl (by rw [mr]; exact .step ov) hd no fun h2 tk2 keep hn => ?_
  have there : ∃ o, h2.get? dx = some o := let ⟨o, _, _, z, _⟩ := hn; ⟨o, z⟩
  exact go _ (I.write (t' := tk2) (x := dx) (e := dx) (o := exd dx ((f, y) :: fs)) (by rw [ed]; exact True.intro) (.inl rfl) keep there (exd_ok hn (relO_put ry rel)))
end
/-- self.f = e -/
def tOsb (K : PySem.W.Frag) (f : Str) (to te : TE) : TS := fun D σ H => te σ H fun y H1 => to σ H1 fun x H2 => ∃ (a C : Addr) (B newId initId : String) (tail : List Value), x = .ref a ∧ OexB K C B newId initId tail ∧ PySem.W.findIn K (.ref C) f = some none ∧
  ((H2 a = some (exo a C none) ∧ ∀ dz, H2 dz = none → dz ≠ a → D.nx σ (upd (upd H2 dz (exd dz [(f, y)])) a (exo a C (some dz)))) ∨
    ∃ (dz : Addr) (fs : List (Str × V)), H2 a = some (exo a C (some dz)) ∧ H2 dz = some (exd dz fs) ∧ fs.length ≤ 900 ∧ D.nx σ (upd H2 dz (exd dz ((f, y) :: fs))))
section
variable {X : Cx} {o e : Expr} {es : List Expr} {to te : TE} {ta : TA} {f : Str} {p pq p1 p2 pos : Pos}
theorem ps_osb (ho : PE X o to) (he : PE X e te) (hs : swapsWith e (some (.Attribute o f pq)) pos.line X.env = pure false := by rfl) : PS X (.Assign [.Attribute o f pq] e pos) (tOsb X.K f to te) := by
  refine ⟨fun pins s σ H D I want => plainObj_wpAny_Assign_Attribute (thn (he.run pins s σ H _ I want) fun v s1 ⟨y, H1, I1, r1, q1⟩ => thn (ho.run pins s1 σ H1 _ I1 q1) fun u s2 ⟨x, H2, I2, r2, a, C, B, n1, n2, tl, ex, T, no, q⟩ => ?_) hs⟩
  subst ex
  cases (show u = Value.ref a from r2)
  rcases q with ⟨ea, q⟩ | ⟨dx, fs, ea, ed, few, q⟩
  · exact osb_new T I2 ea no r1 fun dx s3 n ne J => ⟨σ, _, J, q dx n ne⟩
  · exact osb_old T I2 ea ed few no r1 fun s3 J => ⟨σ, _, J, q⟩
/-- C(e, ..): C's own __init__ keeps sp -/
theorem pmk_oexb {CX : CXT} {x : Str} {C fI : Addr} {k : Nat} {fd : FuncData} {ps : List Str} {sp : Sp} {ds : List Value} {dvs : List V} {B newId initId : String} {tail : List Value} (T : OexB X.K C B newId initId tail) (iC : PySem.W.findIn X.K (.ref C) "__init__" = some (some (.ref fI))) (tI : PySem.W.typeIn X.K (.ref fI) = some (.type "function"))
    (Fn : FnOk X.prog X.w X.K X.mg X.base CX k fI fd ps sp) (room : Room (k + 1) X.A) (bd : Binds X.K fd ps ds) (hd : Vals dvs ds) (pass : Passes CX X (fun _ _ _ => False)) (hg : Gl X x) (hm : X.mg x = some (.ref C)) (ha : PA X (e :: es) ta)
    (hdb : (x == ("__debug__" : Str)) = false := by decide) (he : starEach (e :: es) X.env = (false, eval e X.env) :: starEach es X.env := by rfl) (hpl : (backTo pos (starEach es X.env)).any (·.1) = false := by rfl) : L2N.PMk X (.Call (.Name x p) (e :: es) [] pos) (tMkO C sp dvs ta) := by
  obtain ⟨nm, q, N, bs, bm, sn, sub, ab, col, dd, k0, k1, k2, k3, k5, hC, ov⟩ := T.cls
  refine fun pins s σ H Q I want => wpAny_Call_Name_kw (ld_glob I hg hm (PySem.W.callWith_K (h₀ := X.base) I.ok.mod.kin T.keep_ (thn (ha.run pos pins s σ H _ I want) fun us s1 ⟨vs, H1, I1, r1, hz, q1⟩ => ⟨I1.kIn, ?_⟩) he hpl) hdb)
  show wpAny _ X.A (call (.ref C) us) _ _ _
  obtain ⟨hp, g, dw, tk, os⟩ := s1
  have above : hp.objs.size ≤ hp.objs.size + 1 := Nat.le_add_right _ 1
  have want2 := q1 (hp.objs.size + 1) (I1.hok.fresh above)
  have kept : ∀ b o, hp.get? b = some o → ((hp.push (PySem.W.kdv_tup us)).push (PySem.HandSPX.excO C hp.objs.size)).get? b = some o := fun b o z => Heap.get?_push_of_some _ (Heap.get?_push_of_some _ z)
  have at_ : ((hp.push (PySem.W.kdv_tup us)).push (PySem.HandSPX.excO C hp.objs.size)).get? (hp.objs.size + 1) = some (PySem.HandSPX.excO C hp.objs.size) := by heap_get
  have J : Inv X pins σ (upd H1 (hp.objs.size + 1) (exo (hp.objs.size + 1) C none)) ⟨(hp.push (PySem.W.kdv_tup us)).push (PySem.HandSPX.excO C hp.objs.size), g, dw, tk, os⟩ :=
    I1.laid (t' := tk) (a := hp.objs.size + 1) (o := exo (hp.objs.size + 1) C none) (h' := (hp.push (PySem.W.kdv_tup us)).push (PySem.HandSPX.excO C hp.objs.size)) kept above (exo_ok at_)
  have rel : Vals (V.ref (hp.objs.size + 1) :: (vs ++ dvs)) (Value.ref (hp.objs.size + 1) :: (us ++ ds)) := .cons rfl (r1.append hd)
  have ln : (Value.ref (hp.objs.size + 1) :: us ++ ds).length = ps.length := by
    have z := rel.length
    rw [Fn.len _ _ _ _ want2] at z
    exact z.symm
  have few : us.length ≤ sizeLine := by
    rw [← r1.length, sizeLine_eq]
    omega
  have run := Fn.run _ X.stack _ _ ⟨Value.ref (hp.objs.size + 1) :: us, []⟩ (Value.ref (hp.objs.size + 1) :: (us ++ ds)) _ _ (fun _ _ _ => False) (room.make C us []) (J.env0.make C us []) (bd _ (Value.ref (hp.objs.size + 1) :: us) J.kIn ln) rel want2
  refine wpAny_call (PySem.HandSPX.call_own T.bas.base (fun Y => ov.has Y) (I1.kIn _ _ hC) (PySem.W.looks_findIn I1.kIn iC) (fun self => PySem.W.bind_fn I1.kIn self tI) few (codeAny_mono run fun r s2 got => ?_))
  match r, got with
  | .error er, got => exact pass pins σ _ _ er s2 J got
  | .ok (.ret u), got =>
    obtain ⟨v, H2, os2, bare2, un2, hok2, rv, ev, d, fs, ea, ed, hd1, q2⟩ := got
    subst ev
    obtain ⟨h2, g2, d2, t2, os3⟩ := s2
    obtain ⟨t0, G, J2, kG, ge, hoe, na⟩ := mk_end0 (d2 := d2) (t2 := t2) I1 above kept un2 hok2 os2 bare2 ea ed hd1
    exact ⟨rv, ⟨hp.objs.size + 1, _, _, ⟨G, g2, d2, t2, os3⟩, _, .ref C, some d, rfl, J2, kG, ge, hoe, ⟨rfl, rfl, fun row z => by cases z; rfl⟩, rfl, rfl, na, rfl, bare2, raises_own T.sub_ T.typ_, q2⟩⟩
  | .ok .next, got => exact False.elim got
  | .ok .brk, got => exact False.elim got
  | .ok .cont, got => exact False.elim got
end
end Kx
set_option Elab.async false
set_option linter.all false
set_option maxRecDepth 100000
set_option maxHeartbeats 2000000
namespace Kx
open PySem PySem.Spec PyProof.Rows L2
/-- what the written part says of a method f whose first row is super().__init__(..): code at cda, cell at cc, class at D -/
structure SupW (P : Program) (K : PySem.W.Frag) (f cda cc D : Addr) (sc : Scope) (B initId : String) : Prop where
  fn : ∃ (oc : Value) (od : Option Addr) (fd : FuncData) (osl : Array (Option Value)) (ar : Arg), K.lookup f = some ⟨oc, od, .func fd, osl⟩ ∧ (fd.params.posonlyargs ++ fd.params.args).head? = some ar ∧ ar.arg = "self"
  code : ∃ (ol : Value) (od : Option Addr) (vs : Array Value) (os : Array (Option Value)) (file : Str) (tf : Tok), K.lookup cda = some ⟨ol, od, .fields vs, os⟩ ∧ vs[2]? = some (.str file tf) ∧ ((P.main.file : Str) == file) = true
  cell : ∃ (ol : Value) (od : Option Addr) (os : Array (Option Value)), K.lookup cc = some ⟨ol, od, .cell (some (.ref D)), os⟩
  top : (P.main.scope.names.lookup ("super" : Str)).isSome = false
  ks : sc.names.lookup ("super" : Str) = some .globalImplicit
  kc : sc.names.lookup ("__class__" : Str) = some .free
  ka : sc.names.lookup ("self" : Str) = some .local
  kk : sc.kind = .function
  up : PySem.W.ks_superIn K D D "__init__" = some (some (.builtin initId))
  mr : PySem.W.mroIn K D (.ref D) = some true
  ve : PySem.W.subIn K (.ref D) (.type B) = some true
  opq : PySem.W.nsIn K cStatics "thirdparty.any" = some none
section
variable {X : Cx} {pins : List (Addr × Obj)} {σ : L2.St} {H : Hp} {s : Shared} {a D f cda cc : Addr} {q : Str} {B newId initId : String} {tail : List Value}
/-- the wrapper is called -/
theorem mw_call {u : Addr} {us : List Value} {A : Around} {E : Value → Shared → Prop} {Q : Value → Shared → Prop} (T : OexB X.K D B newId initId tail)
    (I : Inv X pins σ H s) (e : H a = some (exo a D none)) (hu : s.heap.get? u = some (PySem.W.kxs_mw initId a)) (hz : us.length ≤ sizeLine)
    (h : ∀ s', Inv X pins σ H s' → Q .none s') : wpAny (model X.prog X.w) A (call (.ref u) us) Q E s := by
  obtain ⟨nm, qn, N, bs, bm, sn, sub, ab, col, dd, k0, k1, k2, k3, k5, hC, hbm⟩ := T.cls
  obtain ⟨args0, ho⟩ := exo_at I.hok e
  have hC1 := I.kIn _ _ hC
  obtain ⟨hp, g, d, t, os⟩ := s
  refine wpAny_call (codeAny_of_tree (show wpAny _ A.in1 (callAny (.ref u) ⟨us, []⟩) _ _ _ from ?_))
  simp only [callAny]
  refine wpAny_bind (wpAny_load hu (PySem.W.KFB.if_so (show ((Value.type "method-wrapper" == .type "method") || (Value.type "method-wrapper" == .type "builtin_function_or_method") || (Value.type "method-wrapper" == .type "method-wrapper")) = true by decide) ?_))
  refine wpAny_bind (PySem.W.check_bound_init T.bas.base.toExcCallFacts hC1 ho rfl (wpAny_bind (wpAny_pure (wpAny_pure ?_))))
  refine ⟨plainId_quiet T.bas.base.init.plain _, codeAny_builtin T.bas.base.initEntry ?_⟩
  refine PySem.W.exc_init_tree (cls := .ref D) (t0 := args0) (dv := none) (c2 := .none) (c3 := .none) (b4 := .bool false) ho hz fun h' k e' _ => ?_
  have J := I.write (t' := t) (x := a) (e := a) (o := exo a D none) (by rw [e]; exact True.intro) (.inl rfl) k ⟨_, e'⟩ (exo_ok e')
  have back : upd H a (exo a D none) = H := by
    funext b
    by_cases hb : b = a
    · rw [hb, upd_same, e]
    · rw [upd_ne hb]
  rw [back] at J
  exact h _ J
/-- super().__init__(e, ..) as a row -/
theorem at_super {body : List Stmt} {e0 : Expr} {es : List Expr} {p0 p1 p2 pos pos' : Pos} {ta : TA} {Q : Flow → Shared → Prop} {j : Nat} {pl : Sem Bool}
    (W : SupW X.prog X.K f cda cc D X.env.scope B initId) (henv : X.env = PySem.W.ksEnv q X.env.scope X.env.locals f (.ref cda) cc) (hsup : X.mg "super" = none)
    (T : OexB X.K D B newId initId tail) (I : Inv X pins σ H s) (hj : X.N[j]? = some ("self" : Str)) (hs : σ[j]? = some (some (.ref a))) (ea : H a = some (exo a D none))
    (ha : PA X (e0 :: es) ta) {R : List V → Hp → Prop} (hq : ta σ H R) (hR : ∀ vs H1, R vs H1 → vs.length ≤ 1000 ∧ H1 a = some (exo a D none) ∧ ∀ s', Inv X pins σ H1 s' → Q .next s')
    (hc : eval (.Call (.Attribute (.Call (.Name "super" p0) [] [] p1) "__init__" p2) (e0 :: es) [] pos) X.env = (do
      let ov ← attributeBase (.Call (.Name "super" p0) [] [] p1) "__init__" X.env (eval (.Call (.Name "super" p0) [] [] p1) X.env)
      standAt p2.atName
      let (g, pre) ← holding [ov] (getMethod ov "__init__" pl)
      callWith pos g pre (backTo pos (starEach (e0 :: es) X.env)) []))
    (he : starEach (e0 :: es) X.env = (false, eval e0 X.env) :: starEach es X.env) (hpl : (backTo pos (starEach es X.env)).any (·.1) = false)
    (hi : interactive X.env = false) (hsw : swapsWith (.Call (.Attribute (.Call (.Name "super" p0) [] [] p1) "__init__" p2) (e0 :: es) [] pos) none pos'.line X.env = pure false) :
    PySem.wpAt (model X.prog X.w) X.A (.func body X.env) (exec (.Expr (.Call (.Attribute (.Call (.Name "super" p0) [] [] p1) "__init__" p2) (e0 :: es) [] pos) pos') X.env) Q X.xe s := by
  obtain ⟨oc, od, fd, osl, ar, hf, har, harg⟩ := W.fn
  obtain ⟨ol, cd, vs, co, file, tf, hcode, hvs, hfile⟩ := W.code
  obtain ⟨cl, cld, csl, hcell⟩ := W.cell
  obtain ⟨nm, qn, N, bs, bm, sn, sub, ab, col, dd, k0, k1, k2, k3, k5, hC, hbm⟩ := T.cls
  have hcl : PySem.W.clsIn X.K D = some { name := nm, bases := bs, mro := .ref D :: bm, ns := N, qualname := qn, hasDict := true, slotNames := sn, subclasses := sub, abstract := ab, collection := col, hasDel := false } := by unfold PySem.W.clsIn; rw [hC] <;> rfl
  have kx := I.kIn
  have hD1 := kx _ _ hC
  obtain ⟨t1, ho⟩ := exo_at I.hok ea
  refine ks_wpAt_Expr_any (ks_wpAt_MethodCall (pl := pl) ?_ hc) hi hsw
  have k1' : X.env.kindOf "super" = some .globalImplicit := W.ks
  have k2' : X.env.kindOf "__class__" = some .free := W.kc
  have efn : X.env.func = some f := by rw [henv]
  have eco : X.env.code = .ref cda := by rw [henv]
  refine ks_wpAt_super_base (env := X.env) k1' k2' (by decide) efn (kx _ _ hf) rfl har eco (kx _ _ hcode) rfl hvs hfile W.top ?_
  obtain ⟨mb, b1, b2⟩ := I.mod.blt
  refine PySem.W.ks_loadName_global W.kk k1' (Calls.loadGlobal_builtin (by rw [I.ok.glob]; exact I.mod.glob.keeps I.bk) hsup (by rw [I.ok.blt]; exact b1.keeps I.bk) ((b2 "super" (by decide)).trans PyProof.Rows.Boot.«super») ⟨rfl, ?_⟩)
  refine wpAny_loadName_free W.kk k2' (c := cc) (by rw [henv]; rfl) ⟨_, kx _ _ hcell, rfl⟩ ?_
  obtain ⟨m, hns, hl⟩ := I.loc
  obtain ⟨u, ru, lk⟩ := hl j "self" (.ref a) hj hs (.inl W.ka)
  obtain rfl : u = .ref a := ru
  have hm : m "self" = some (.ref a) := by
    rcases lk with ⟨_, z⟩ | ⟨z, _⟩
    · exact z
    · have z0 : X.env.kindOf "self" = some .local := W.ka
      rw [z0] at z
      rcases z with z | z <;> cases z
  rw [harg]
  refine wpAny_loadName_local W.kk W.ka hns hm ?_
  obtain ⟨hp, g, d, t, os⟩ := s
  refine ks_wpAny_isType_cls hD1 rfl ⟨rfl, ?_⟩
  refine ks_wpAny_call_super hD1 rfl ho rfl (fun c e => by cases e) (PySem.W.looks_mroIn kx W.mr) (fun h' e k => ?_)
  have I1 : Inv X pins σ H ⟨h', g, d, t, os⟩ := I.kept k
  obtain ⟨t2, ho1⟩ := exo_at I1.hok ea
  have In : PySem.W.InstAt h' a _ D none := ⟨ho1, rfl, rfl, trivial⟩
  have hup := W.up
  unfold PySem.W.ks_superIn at hup
  rw [hcl] at hup
  refine PySem.W.kxs_getMethod T.bas.sup e (PySem.W.looks_opaque I1.kIn W.opq) (l₀ := .ref D :: bm) ?_ rfl I1.kIn hup (In.type.andThen (PySem.W.looks_subIn I1.kIn W.ve)) (PySem.W.ks_ne I1.kIn In hcl) (by decide) ?_
  · exact fun A Q E s k q => wpAny_bind ((PySem.W.looks_clsIn I1.kIn hcl) A _ E s k (wpAny_pure q))
  · have I2 : Inv X pins σ H ⟨h'.push (PySem.W.kxs_mw initId a), g, d, t + 1, os⟩ := I1.kept fun b o z => Heap.get?_push_of_some _ z
    have pu : (h'.push (PySem.W.kxs_mw initId a)).get? h'.objs.size = some (PySem.W.kxs_mw initId a) := Heap.get?_push_at rfl rfl
    have nH : H h'.objs.size = none := I1.hok.fresh (Nat.le_refl _)
    have nL : h'.objs.size ≠ X.env.locals := Nat.ne_of_gt I1.lt
    have nF : h'.objs.size ∉ X.fs := I1.nofs (Nat.le_refl _)
    have I3 : Inv X (pins ++ [(h'.objs.size, PySem.W.kxs_mw initId a)]) σ H ⟨h'.push (PySem.W.kxs_mw initId a), g, d, t + 1, os⟩ := I2.pins_of fun p hp => by
      rcases (List.mem_append.mp hp : _ ∨ _) with z | z
      · exact I2.pin p (List.mem_append_right _ z)
      · rw [List.mem_singleton] at z
        subst z
        exact ⟨pu, nH, nL, nF, fun v e => by cases e⟩
    have run := ha.run pos _ _ σ H _ I3 hq
    show wpAny _ _ (callWith pos (.ref h'.objs.size) [] (backTo pos (starEach (e0 :: es) X.env)) []) _ _ _
    rw [he] at run ⊢
    refine PySem.W.kxs_callWith (i := initId) (x := a) (first := []) (by show (false || (backTo pos (starEach es X.env)).any (·.1)) = false; rw [hpl]; rfl) ?_
    refine PySem.Calls.evalArgs_plain (thn run fun us s1 ⟨ws, H1, J, rel, r1⟩ => ?_)
    obtain ⟨hz, e1, nx⟩ := hR ws H1 r1
    have at1 := (J.pin (h'.objs.size, PySem.W.kxs_mw initId a) (by simp)).1
    have few : us.length ≤ sizeLine := by
      rw [← rel.length, sizeLine_eq]
      omega
    exact ⟨at1, mw_call (us := us) T J.unpinned e1 at1 few fun s' J2 => nx s' J2⟩
end
open NdefX in
/-- such a method, by its rows -/
theorem fnS_of {B newId initId : String} {tail : List Value} {CX : CXT} {P : Program} {w : World} {K : PySem.W.Frag} {mg : Str → Option Value} {base : Heap} {k : Nat} {f cda cc D : Addr} {nm qual : Str} {prs : Arguments} {sc : Scope}
    {dV kV doc pm ct oc : Value} {an od : Option Addr} {osl : Array (Option Value)} {N pr : List Str} {sp : Sp} {e0 : Expr} {es : List Expr} {rest : List Stmt} {p0 p1 p2 pos pos' : Pos}
    (lk : K.lookup f = some ⟨oc, od, .func (PySem.W.ksFn nm qual prs (.Expr (.Call (.Attribute (.Call (.Name "super" p0) [] [] p1) "__init__" p2) (e0 :: es) [] pos) pos' :: rest) sc dV kV doc pm an (.ref cda) ct cc), osl⟩)
    (cin : PySem.W.codeIn K (.ref cda) qual = true) (S : NScope N ("self" :: pr) ["__class__"] sc) (W : SupW P K f cda cc D sc B initId) (T : OexB K D B newId initId tail) (hsup : mg "super" = none)
    (many : ∀ vs H Q E, sp vs H Q E → vs.length = pr.length + 1)
    (rows : ∀ (A : Around) (outer : List Env) (s : Shared) (H : Hp) (vs : List V) (Q : VK) (E : XK) (F : NF),
      F = ⟨nm, qual, prs, .Expr (.Call (.Attribute (.Call (.Name "super" p0) [] [] p1) "__init__" p2) (e0 :: es) [] pos) pos' :: rest, sc, [("__class__", cc)], cda⟩ →
      Room k (A.deeper (envF F f s.heap.objs.size)) → sp vs H Q E →
      ∃ (a : Addr) (vr : List V) (ta : TA) (t : TS), vs = .ref a :: vr ∧ H a = some (exo a D none) ∧ PA (ncx CX P w K mg base N F f A outer s H E) (e0 :: es) ta ∧ PSs (ncx CX P w K mg base N F f A outer s H E) rest t ∧
        ta (startF N vs [none]) H fun ws H1 => ws.length ≤ 1000 ∧ H1 a = some (exo a D none) ∧ t { nx := fun _ H' => Q .non H', rt := Q } (startF N vs [none]) H1)
    (hc : ∀ env : Env, ∃ pl, eval (.Call (.Attribute (.Call (.Name "super" p0) [] [] p1) "__init__" p2) (e0 :: es) [] pos) env = (do
      let ov ← attributeBase (.Call (.Name "super" p0) [] [] p1) "__init__" env (eval (.Call (.Name "super" p0) [] [] p1) env)
      standAt p2.atName
      let (g, pre) ← holding [ov] (getMethod ov "__init__" pl)
      callWith pos g pre (backTo pos (starEach (e0 :: es) env)) []) := by intro env; exact ⟨_, rfl⟩)
    (he : ∀ env : Env, starEach (e0 :: es) env = (false, eval e0 env) :: starEach es env := by intro env; rfl) (hpl : ∀ env : Env, (backTo pos (starEach es env)).any (·.1) = false := by intro env; rfl)
    (hsw : ∀ env : Env, swapsWith (.Call (.Attribute (.Call (.Name "super" p0) [] [] p1) "__init__" p2) (e0 :: es) [] pos) none pos'.line env = pure false := by intro env; rfl) :
    FnOk P w K mg base CX (k + 1) f (PySem.W.ksFn nm qual prs (.Expr (.Call (.Attribute (.Call (.Name "super" p0) [] [] p1) "__init__" p2) (e0 :: es) [] pos) pos' :: rest) sc dV kV doc pm an (.ref cda) ct cc) ("self" :: pr) sp := by
  refine ⟨many, fun A outer s H args us vs Q E room en bt rel want => ?_⟩
  have ln := many _ _ _ _ want
  have kin : K.In s.heap := en.mod.kin.keeps fun b o e => (en.bs b o e).1
  have nolim : s.heap.NoLimit := en.mod.nolimit.keeps fun b o e => (en.bs b o e).1
  obtain ⟨cl, cld, csl, hcell⟩ := W.cell
  have cells : CellsAt [(("__class__" : Str), cc)] [("__class__" : Str)] [none] s.heap H := by
    have here : H cc = none ∧ ∃ v, s.heap.IsCell cc v := ⟨(en.bs cc _ (en.mod.kin _ _ hcell)).2, _, ⟨_, kin _ _ hcell, rfl⟩⟩
    have only : ∀ (y : Str) (c : Addr), List.lookup y [(("__class__" : Str), cc)] = some c → y = "__class__" ∧ c = cc := fun y c z => by
      have m := PySem.mem_of_lookup z
      rw [List.mem_singleton] at m
      cases m
      exact ⟨rfl, rfl⟩
    refine ⟨rfl, fun y c z => ?_, fun x y c z1 z2 => (only x c z1).1.trans (only y c z2).1.symm, fun i y z => ?_⟩
    · obtain ⟨_, rfl⟩ := only y c z
      exact here
    · cases i with
      | zero =>
        cases z
        exact ⟨cc, rfl, fun v ev => by cases ev⟩
      | succ i => cases z
  obtain ⟨a, vr, ta, t, rfl, ea, pa, ps, q⟩ := rows A outer s H vs Q E _ rfl (room.deeper _) want
  refine ks_codeAny_call_defAt room.depth (kin _ _ lk) rfl nolim (PySem.W.codeRec_of kin cin) rfl bt S.nocell (fun ⟨n, _⟩ hy => S.par n (List.of_mem_zip hy).1) (fun h1 hns kp => ?_) S.co S.gen S.kind
  have I : Inv (ncx CX P w K mg base N ⟨nm, qual, prs, .Expr (.Call (.Attribute (.Call (.Name "super" p0) [] [] p1) "__init__" p2) (e0 :: es) [] pos) pos' :: rest, sc, [("__class__", cc)], cda⟩ f A outer s H E) [] (startF N (.ref a :: vr) [none]) H
      { s with heap := h1, toks := s.toks + ((("self" : Str) :: pr).zip us).length } := inv_startN S room.hd en ln rel cells hns kp
  obtain ⟨pl, hpc⟩ := hc (envF ⟨nm, qual, prs, .Expr (.Call (.Attribute (.Call (.Name "super" p0) [] [] p1) "__init__" p2) (e0 :: es) [] pos) pos' :: rest, sc, [("__class__", cc)], cda⟩ f s.heap.objs.size)
  have hj : N[0]? = some ("self" : Str) := by
    have z : (N.take ((("self" : Str) :: pr).length + [("__class__" : Str)].length))[0]? = some ("self" : Str) := by rw [S.pre]; rfl
    rw [List.getElem?_take_of_lt (by simp)] at z
    exact z
  refine ks_wpAt_execs_cons (ks_wpAt_mono (at_super (j := 0) (a := a) (q := qual) W rfl hsup T I hj rfl ea pa q (Q := fun fl s' => fl = .next ∧ ∃ H1, t { nx := fun _ H' => Q .non H', rt := Q } (startF N (.ref a :: vr) [none]) H1 ∧ Inv _ [] (startF N (.ref a :: vr) [none]) H1 s')
    (fun ws H1 ⟨z1, z2, z3⟩ => ⟨z1, z2, fun s' J => ⟨rfl, H1, z3, J⟩⟩) hpc (he _) (hpl _) I.quiet (hsw _)) (fun fl s' hz => ?_) fun e s' hz => hz)
  obtain ⟨rfl, H1, q1, J⟩ := hz
  refine wpAt_of_wpAny (wpAny_mono (ps.run [] s' _ H1 _ J q1) (fun fl s2 hz => ?_) fun e s2 hz => hz)
  cases fl with
  | ret u =>
    obtain ⟨v, σ', H', J, rv, q⟩ := hz
    exact (⟨v, H', J.os, J.bare, J.base, J.hok, rv, q⟩ : CE outer P w H s Q u s2)
  | next =>
    obtain ⟨σ', H', J, q⟩ := hz
    exact (⟨V.non, H', J.os, J.bare, J.base, J.hok, rfl, q⟩ : CE outer P w H s Q Value.none s2)
  | brk =>
    obtain ⟨_, _, _, no⟩ := hz
    exact no.elim
  | cont =>
    obtain ⟨_, _, _, no⟩ := hz
    exact no.elim
end Kx
set_option Elab.async false
set_option linter.all false
set_option maxRecDepth 100000
set_option maxHeartbeats 2000000
namespace Kx
open PySem PySem.Spec PyProof.Rows L2 NdefX
/-- the row super().__init__(text) -/
abbrev rowSup (txt : Str) (j : Nat) (p0 p1 p2 p3 p4 p5 : Pos) : Stmt := .Expr (.Call (.Attribute (.Call (.Name "super" p0) [] [] p1) "__init__" p2) [.Constant (.str txt) j p3] [] p4) p5
/-- the row self.f = kept(x) -/
abbrev rowFld (f x : Str) (p0 p1 p2 p3 p4 p5 : Pos) : Stmt := .Assign [.Attribute (.Name "self" p0) f p1] (.Call (.Name "kept" p2) [.Name x p3] [] p4) p5
/-- how super().__init__(e) is evaluated: told where the positions are known -/
def SupEv (e : Expr) (p0 p1 p2 pos : Pos) : Prop := ∀ env : Env, ∃ pl, eval (.Call (.Attribute (.Call (.Name "super" p0) [] [] p1) "__init__" p2) [e] [] pos) env = (do
  let ov ← attributeBase (.Call (.Name "super" p0) [] [] p1) "__init__" env (eval (.Call (.Name "super" p0) [] [] p1) env)
  standAt p2.atName
  let (g, pre) ← holding [ov] (getMethod ov "__init__" pl)
  callWith pos g pre (backTo pos (starEach [e] env)) [])
/-- the words of such a method, as they stand behind the top -/
structure InitW (P : Program) (K : PySem.W.Frag) (qual : Str) (prs : Arguments) (body : List Stmt) (sc : Scope) (f D : Addr) (fd : FuncData) (B initId : String) : Prop where
  ex : ∃ (oc : Value) (od an : Option Addr) (osl : Array (Option Value)) (kV doc pm ct : Value) (cda cc : Addr), fd = PySem.W.ksFn "__init__" qual prs body sc .none kV doc pm an (.ref cda) ct cc ∧
    K.lookup f = some ⟨oc, od, .func (PySem.W.ksFn "__init__" qual prs body sc .none kV doc pm an (.ref cda) ct cc), osl⟩ ∧ PySem.W.codeIn K (.ref cda) qual = true ∧ SupW P K f cda cc D sc B initId
section
variable {P : Program} {w : World} {K : PySem.W.Frag} {mg : Str → Option Value} {base : Heap} {CX : CXT} {qual txt fl x fl2 x2 : Str} {prs : Arguments} {sc : Scope} {f D fK : Addr} {fd fdK : FuncData} {spk : Sp} {k : Nat} {ds : List Value}
  {B newId initId : String} {tail : List Value} {jx : Nat} {a0 a1 a2 a3 a4 a5 b0 b1 b2 b3 b4 b5 c0 c1 c2 c3 c4 c5 : Pos}
def spErr1 (D : Addr) (fl : Str) (spk : Sp) : Sp := fun vs H Q _ => ∃ (a : Addr) (v : V), vs = [.ref a, v] ∧ H a = some (exo a D none) ∧
  spk [v, .int 5] H (fun v' H' => H' a = some (exo a D none) ∧ ∀ dx, H' dx = none → dx ≠ a → Q .non (upd (upd H' dx (exd dx [(fl, v')])) a (exo a D (some dx)))) E0
theorem ok_err1 (F : InitW P K qual prs [rowSup txt jx a0 a1 a2 a3 a4 a5, rowFld fl x b0 b1 b2 b3 b4 b5] sc f D fd B initId) (S : NScope ["self", x, "__class__"] ["self", x] ["__class__"] sc) (T : OexB K D B newId initId tail) (hsup : mg "super" = none)
    (no : PySem.W.findIn K (.ref D) fl = some none) (FK : FnOk P w K mg base CX0 k fK fdK ["value", "levels"] spk) (hm : mg "kept" = some (.ref fK)) (hk : PySem.W.keepIn K (.ref fK) = true) (hb : Binds K fdK ["value", "levels"] ds) (hd : Vals [.int 5] ds)
    (mono : ∀ (vs : List V) (H : Hp) (Q Q' : VK) (E : XK), (∀ v H', Q v H' → Q' v H') → spk vs H Q E → spk vs H Q' E)
    (hg : sc.names.lookup ("kept" : Str) = some .globalImplicit) (hx : (x == ("__debug__" : Str)) = false) (hx2 : (x == ("__classdict__" : Str)) = false) (hx3 : sc.names.lookup x = some .local) (hc : SupEv (.Constant (.str txt) jx a3) a0 a1 a2 a4) :
    FnOk P w K mg base CX0 (k + 1) f fd ["self", x] (spErr1 D fl spk) := by
  obtain ⟨oc, od, an, osl, kV, doc, pm, ct, cda, cc, rfl, lk, cin, W⟩ := F.ex
  refine fnS_of lk cin S W T hsup (fun vs H Q E h => ?_) (fun A outer s H vs Q E G eG hr h => ?_) hc
  · obtain ⟨a, v, rfl, _⟩ := h
    rfl
  · obtain ⟨a, v, rfl, ea, q⟩ := h
    subst eG
    refine ⟨a, [v], _, _, rfl, ea, pa_cons pe_str pa_nil, pss_one (ps_osb (pv 0 rfl (.inl W.ka)) (pe_call FK hr (by exact hg) hm hk hb hd pass0 (pa_cons (pv 1 rfl (.inl hx3) hx hx2) pa_nil))), ?_⟩
    refine ⟨Nat.le_of_lt (by decide : 1 < 1000), ea, v, rfl, ?_⟩
    refine mono _ _ _ _ _ (fun v' H' z => ?_) q
    obtain ⟨e1, nx⟩ := z
    exact ⟨.ref a, rfl, a, D, _, _, _, _, rfl, T, no, .inl ⟨e1, nx⟩⟩
def spErr2 (D : Addr) (fl fl2 : Str) (spk : Sp) : Sp := fun vs H Q _ => ∃ (a : Addr) (v u : V), vs = [.ref a, v, u] ∧ H a = some (exo a D none) ∧
  spk [v, .int 5] H (fun v' H' => H' a = some (exo a D none) ∧ ∀ dx, H' dx = none → dx ≠ a →
    spk [u, .int 5] (upd (upd H' dx (exd dx [(fl, v')])) a (exo a D (some dx))) (fun u' H2 => H2 a = some (exo a D (some dx)) ∧ H2 dx = some (exd dx [(fl, v')]) ∧ Q .non (upd H2 dx (exd dx [(fl2, u'), (fl, v')]))) E0) E0
theorem ok_err2 (F : InitW P K qual prs [rowSup txt jx a0 a1 a2 a3 a4 a5, rowFld fl x b0 b1 b2 b3 b4 b5, rowFld fl2 x2 c0 c1 c2 c3 c4 c5] sc f D fd B initId) (S : NScope ["self", x, x2, "__class__"] ["self", x, x2] ["__class__"] sc) (T : OexB K D B newId initId tail) (hsup : mg "super" = none)
    (no : PySem.W.findIn K (.ref D) fl = some none) (no2 : PySem.W.findIn K (.ref D) fl2 = some none) (FK : FnOk P w K mg base CX0 k fK fdK ["value", "levels"] spk) (hm : mg "kept" = some (.ref fK)) (hk : PySem.W.keepIn K (.ref fK) = true) (hb : Binds K fdK ["value", "levels"] ds) (hd : Vals [.int 5] ds)
    (mono : ∀ (vs : List V) (H : Hp) (Q Q' : VK) (E : XK), (∀ v H', Q v H' → Q' v H') → spk vs H Q E → spk vs H Q' E)
    (hg : sc.names.lookup ("kept" : Str) = some .globalImplicit) (hx : (x == ("__debug__" : Str)) = false) (hx2 : (x == ("__classdict__" : Str)) = false) (hx3 : sc.names.lookup x = some .local)
    (hy : (x2 == ("__debug__" : Str)) = false) (hy2 : (x2 == ("__classdict__" : Str)) = false) (hy3 : sc.names.lookup x2 = some .local) (hc : SupEv (.Constant (.str txt) jx a3) a0 a1 a2 a4) :
    FnOk P w K mg base CX0 (k + 1) f fd ["self", x, x2] (spErr2 D fl fl2 spk) := by
  obtain ⟨oc, od, an, osl, kV, doc, pm, ct, cda, cc, rfl, lk, cin, W⟩ := F.ex
  refine fnS_of lk cin S W T hsup (fun vs H Q E h => ?_) (fun A outer s H vs Q E G eG hr h => ?_) hc
  · obtain ⟨a, v, u, rfl, _⟩ := h
    rfl
  · obtain ⟨a, v, u, rfl, ea, q⟩ := h
    subst eG
    refine ⟨a, [v, u], _, _, rfl, ea, pa_cons pe_str pa_nil, pss_cons (ps_osb (pv 0 rfl (.inl W.ka)) (pe_call FK hr (by exact hg) hm hk hb hd pass0 (pa_cons (pv 1 rfl (.inl hx3) hx hx2) pa_nil)))
      (pss_one (ps_osb (pv 0 rfl (.inl W.ka)) (pe_call FK hr (by exact hg) hm hk hb hd pass0 (pa_cons (pv 2 rfl (.inl hy3) hy hy2) pa_nil)))), ?_⟩
    refine ⟨Nat.le_of_lt (by decide : 1 < 1000), ea, v, rfl, ?_⟩
    refine mono _ _ _ _ _ (fun v' H' z => ?_) q
    obtain ⟨e1, nx⟩ := z
    refine ⟨.ref a, rfl, a, D, _, _, _, _, rfl, T, no, .inl ⟨e1, fun dx n1 n2 => ⟨u, rfl, ?_⟩⟩⟩
    refine mono _ _ _ _ _ (fun u' H2 z => ?_) (nx dx n1 n2)
    obtain ⟨e2, e3, q2⟩ := z
    exact ⟨.ref a, rfl, a, D, _, _, _, _, rfl, T, no2, .inr ⟨dx, _, e2, e3, Nat.le_of_lt (by decide : 1 < 900), q2⟩⟩
/-- how its arguments bind -/
theorem InitW.binds {body : List Stmt} {ps : List Str} (F : InitW P K qual prs body sc f D fd B initId)
    (h : ∀ (kV doc pm : Value) (an : Option Addr) (cdv ct : Value) (cc : Addr) (us : List Value), us.length = ps.length → bindArgs (PySem.W.ksFn "__init__" qual prs body sc .none kV doc pm an cdv ct cc) ⟨us, []⟩ = pure (ps.zip us)) : Binds K fd ps [] := by
  obtain ⟨oc, od, an, osl, kV, doc, pm, ct, cda, cc, rfl, lk, cin, W⟩ := F.ex
  exact .all (h kV doc pm an _ ct cc)
end
end Kx
set_option Elab.async false
set_option linter.all false
set_option maxRecDepth 100000
set_option maxHeartbeats 2000000
namespace Kx
open PySem PySem.Spec PyProof.Rows L2
section
variable {X : Cx} {a D dd : Addr} {oe : Obj} {pn : List (Addr × Obj)} {cls : Value} {d : Option Addr}
theorem xinst {pins : List (Addr × Obj)} {σ : L2.St} {H : Hp} {s : Shared} {fs : List (Str × V)} (I : Inv (X.suite a ((a, oe) :: pn)) pins σ H s) (hz : Zc (.ref D) (some dd) oe) (hf : ∃ vs, oe.data = .fields vs) (hx : H dd = some (.xd fs)) :
    ∃ od, PySem.W.InstAt s.heap a oe D (some od) := by
  obtain ⟨ha, _⟩ := I.pin (a, oe) (List.mem_append_left _ List.mem_cons_self)
  obtain ⟨vs, hd⟩ := hf
  have ok : ObjOk X.prog X.w H s.heap dd (.xd fs) := I.hok dd _ hx
  obtain ⟨mA, hns, _⟩ := ok
  obtain ⟨od, ho, _⟩ := lookIn_ns hns
  exact ⟨od, ha, hz.1, by unfold PySem.W.notCls; rw [hd] <;> rfl, by rw [hz.2]; exact ho⟩
/-- isinstance(e, c) -/
def rIsX (K : PySem.W.Frag) (a : Addr) (cls : Value) (d : Option Addr) : List V → Hp → VK → Prop := fun xs H Q => ∃ (c : V) (u : Value) (D dd : Addr) (fs : List (Str × V)) (b : Bool), xs = [.ref a, c] ∧ ClsV c u ∧ cls = .ref D ∧ d = some dd ∧ ExcC K D ∧ H dd = some (.xd fs) ∧ PySem.W.kitOne K (.ref D) u = some b ∧ Q (.bl b) H
/-- isinstance(e, (c1, c2, ..)) -/
def rIsXT (K : PySem.W.Frag) (a : Addr) (cls : Value) (d : Option Addr) : List V → Hp → VK → Prop := fun xs H Q => ∃ (tp : Addr) (cs : List V) (us : List Value) (D dd : Addr) (fs : List (Str × V)) (b : Bool), xs = [.ref a, .ref tp] ∧ H tp = some (.tup cs) ∧ Paired ClsV cs us ∧
  cls = .ref D ∧ d = some dd ∧ ExcC K D ∧ H dd = some (.xd fs) ∧ PySem.W.kitAny K (.ref D) us = some b ∧ Q (.bl b) H
theorem has_cls {K : PySem.W.Frag} (C : ExcC K D) : (PySem.W.clsIn K D).isSome = true := by
  obtain ⟨cd, hc, _⟩ := PySem.W.any_some C.hd
  rw [hc]
  rfl
theorem call_isX (hz : Zc cls d oe) (hf : ∃ vs, oe.data = .fields vs) : CallR (X.suite a ((a, oe) :: pn)) (.builtin "isinstance") (rIsX X.K a cls d) := by
  intro pins s σ H xs us Q I rel want
  obtain ⟨c, u, D, dd, fs, b, rfl, k, rfl, rfl, C, hx, e, q⟩ := want
  obtain ⟨_, u2, rfl, (rfl : _ = Value.ref a), r2⟩ := vals2 rel
  have e2 := k.eq r2
  subst e2
  obtain ⟨od, J⟩ := xinst I hz hf hx
  exact PySem.W.kia_one (PySem.W.kitx_exc (has_cls C) C.hg C.hk C.hs C.ha C.hn C.ht C.hm) I.kIn J e (fun z => nomatch z) fun tk => ⟨.bl b, H, I.tok tk, rfl, q⟩
theorem call_isXT (hz : Zc cls d oe) (hf : ∃ vs, oe.data = .fields vs) : CallR (X.suite a ((a, oe) :: pn)) (.builtin "isinstance") (rIsXT X.K a cls d) := by
  intro pins s σ H xs us Q I rel want
  obtain ⟨tp, cs, ws, D, dd, fs, b, rfl, hT, k, rfl, rfl, C, hx, e, q⟩ := want
  obtain ⟨_, u2, rfl, (rfl : _ = Value.ref a), r2⟩ := vals2 rel
  obtain rfl : u2 = .ref tp := r2
  obtain ⟨od, J⟩ := xinst I hz hf hx
  have tupAt : ObjOk X.prog X.w H s.heap tp (.tup cs) := I.hok tp _ hT
  obtain ⟨_, its, rv, ⟨_, _, _, _⟩, at_, c0, n, d0⟩ := tupAt
  obtain rfl := ClsV.all k rv
  dsimp only at c0 d0
  subst c0 d0
  exact PySem.W.kia_tup (PySem.W.kitx_exc (has_cls C) C.hg C.hk C.hs C.ha C.hn C.ht C.hm) I.kIn J at_ e (fun z => nomatch z) fun tk => ⟨.bl b, H, I.tok tk, rfl, q⟩
end
end Kx
set_option Elab.async false
set_option linter.all false
set_option maxRecDepth 100000
namespace Tr
open PySem PySem.Spec PyProof.Rows L2 Evl Kc LamX
abbrev D := PyData
def kD : Key → D
  | .inl i => .int i
  | .inr x => .str x
mutual
/-- the value v is the tree d, in the part G of the heap that stays -/
inductive Rp (K : PySem.W.Frag) (G : Hp) : V → D → Prop
  | non : Rp K G .non .none
  | bl (b : Bool) : Rp K G (.bl b) (.bool b)
  | int (i : Int) : Rp K G (.int i) (.int i)
  | str (x : Str) : Rp K G (.str x) (.str x)
  | lst {a : Addr} {xs : List V} {ds : List D} : G a = some (.lst xs) → Rps K G xs ds → Rp K G (.ref a) (.list ds)
  | tup {a : Addr} {xs : List V} {ds : List D} : SqT K G a xs → Rps K G xs ds → Rp K G (.ref a) (.tuple ds)
  | dct {a : Addr} {kvs : List (Key × V)} {es : List (D × D)} : G a = some (.dK kvs) → Rpk K G kvs es → Rp K G (.ref a) (.dict es)
inductive Rps (K : PySem.W.Frag) (G : Hp) : List V → List D → Prop
  | nil : Rps K G [] []
  | cons {v : V} {d : D} {vs : List V} {ds : List D} : Rp K G v d → Rps K G vs ds → Rps K G (v :: vs) (d :: ds)
inductive Rpk (K : PySem.W.Frag) (G : Hp) : List (Key × V) → List (D × D) → Prop
  | nil : Rpk K G [] []
  | cons {k : Key} {v : V} {d : D} {vs : List (Key × V)} {ds : List (D × D)} : Rp K G v d → Rpk K G vs ds → Rpk K G ((k, v) :: vs) ((kD k, d) :: ds)
end
section
variable {K : PySem.W.Frag} {G G' H H' : Hp}
mutual
theorem Rp.mono (e : Ex G G') : ∀ {v : V} {d : D}, Rp K G v d → Rp K G' v d
  | _, _, .non => .non
  | _, _, .bl b => .bl b
  | _, _, .int i => .int i
  | _, _, .str x => .str x
  | _, _, .lst h a => .lst (e _ _ h) (Rps.mono e a)
  | _, _, .tup h a => .tup (ex_t e h) (Rps.mono e a)
  | _, _, .dct h a => .dct (e _ _ h) (Rpk.mono e a)
theorem Rps.mono (e : Ex G G') : ∀ {v : List V} {d : List D}, Rps K G v d → Rps K G' v d
  | _, _, .nil => .nil
  | _, _, .cons h a => .cons (Rp.mono e h) (Rps.mono e a)
theorem Rpk.mono (e : Ex G G') : ∀ {v : List (Key × V)} {d : List (D × D)}, Rpk K G v d → Rpk K G' v d
  | _, _, .nil => .nil
  | _, _, .cons h a => .cons (Rp.mono e h) (Rpk.mono e a)
end
theorem Rps.len : ∀ {v : List V} {d : List D}, Rps K G v d → v.length = d.length
  | _, _, .nil => rfl
  | _, _, .cons _ a => congrArg (· + 1) (Rps.len a)
theorem Rpk.len : ∀ {v : List (Key × V)} {d : List (D × D)}, Rpk K G v d → v.length = d.length
  | _, _, .nil => rfl
  | _, _, .cons _ a => congrArg (· + 1) (Rpk.len a)
theorem Rps.get : ∀ {vs : List V} {ds : List D} {i : Nat} {d : D}, Rps K G vs ds → ds[i]? = some d → ∃ v, vs[i]? = some v ∧ Rp K G v d
  | _, _, i, _, .nil, e => by cases i <;> cases e
  | _, _, 0, _, .cons h _, e => by cases Option.some.inj e; exact ⟨_, rfl, h⟩
  | _, _, i + 1, _, .cons _ a, e => Rps.get (i := i) a e
theorem Rps.app : ∀ {v w : List V} {d e : List D}, Rps K G v d → Rps K G w e → Rps K G (v ++ w) (d ++ e)
  | _, _, _, _, .nil, b => b
  | _, _, _, _, .cons h a, b => .cons h (Rps.app a b)
theorem Rps.take : ∀ {v : List V} {d : List D} (n : Nat), Rps K G v d → Rps K G (v.take n) (d.take n)
  | _, _, 0, _ => .nil
  | _, _, _ + 1, .nil => .nil
  | _, _, n + 1, .cons h a => .cons h (Rps.take n a)
theorem Rps.drop : ∀ {v : List V} {d : List D} (n : Nat), Rps K G v d → Rps K G (v.drop n) (d.drop n)
  | _, _, 0, a => a
  | _, _, _ + 1, .nil => .nil
  | _, _, n + 1, .cons h a => Rps.drop n a
theorem Rps.set {x : V} {y : D} (r : Rp K G x y) : ∀ {v : List V} {d : List D} (n : Nat), Rps K G v d → Rps K G (v.set n x) (d.set n y)
  | _, _, _, .nil => .nil
  | _, _, 0, .cons h a => .cons r a
  | _, _, n + 1, .cons h a => .cons h (Rps.set r n a)
theorem Rps.eraseIdx : ∀ {v : List V} {d : List D} (n : Nat), Rps K G v d → Rps K G (v.eraseIdx n) (d.eraseIdx n)
  | _, _, _, .nil => .nil
  | _, _, 0, .cons h a => a
  | _, _, n + 1, .cons h a => .cons h (Rps.eraseIdx n a)
end
inductive AV where
  /-- a tree that stays as it is -/
  | dat (d : D)
  /-- a list or dict that only this slot knows; par: it came as an argument -/
  | own (par : Bool) (d : D)
  /-- a pot of draws that only this slot knows -/
  | pot (par : Bool)
  /-- an instance of the class at C whose fields stay -/
  | obj (C : Addr) (fs : List (Str × D))
  | raw (v : V)
  /-- the law's list of ints, which is only read -/
  | scr (ns : List Int)
  /-- a caught error of the class at C; its fields stand at dd -/
  | exn (a C dd : Addr) (fs : List (Str × D))
  /-- a lambda that was handed over; Gc: what stayed as it was made -/
  | clo (f : Addr) (Gc : Hp)
  /-- as a value: what slot i owns -/
  | at (i : Nat)
abbrev S := List (Option AV)
def AV.isOwn : AV → Bool
  | .own _ _ => true
  | .pot _ => true
  | _ => false
def AV.isPar : AV → Bool
  | .own p _ => p
  | .pot p => p
  | _ => false
theorem AV.par_own {a : AV} (h : a.isPar = true) : a.isOwn = true := by cases a <;> first | rfl | cases h
/-- the fields of an instance or an error -/
abbrev Flds (K : PySem.W.Frag) (G : Hp) : List (Str × V) → List (Str × D) → Prop := Paired fun p q => p.1 = q.1 ∧ Rp K G p.2 q.2
theorem Flds.mono {K : PySem.W.Frag} {G G' : Hp} (e : Ex G G') {vs : List (Str × V)} {fs : List (Str × D)} (h : Flds K G vs fs) : Flds K G' vs fs := L2.Paired.mapP h fun _ _ z => ⟨z.1, z.2.mono e⟩
def Own (K : PySem.W.Frag) (G H : Hp) (p : Addr) : D → Prop
  | .list ds => ∃ xs, H p = some (.lst xs) ∧ Rps K G xs ds
  | .dict es => ∃ kvs, H p = some (.dK kvs) ∧ Rpk K G kvs es
  | _ => False
/-- what is owned stands at p -/
def Stands (K : PySem.W.Frag) (G H : Hp) (p : Addr) : AV → Prop
  | .own _ d => Own K G H p d
  | .pot _ => Pot H p
  | _ => False
def Hold (K : PySem.W.Frag) (G H : Hp) : AV → V → Prop
  | .dat d, v => Rp K G v d
  | .own b d, v => ∃ p, v = .ref p ∧ G p = none ∧ Stands K G H p (.own b d)
  | .pot b, v => ∃ p, v = .ref p ∧ G p = none ∧ Stands K G H p (.pot b)
  | .obj C fs, v => ∃ a dx vs, v = .ref a ∧ G a = some (.ins C dx vs) ∧ Flds K G vs fs
  | .raw u, v => v = u
  | .scr ns, v => ∃ a, v = .ref a ∧ SqL K G a (ns.map V.int)
  | .exn a C dd fs, v => v = .ref a ∧ ∃ vs, G dd = some (.xd vs) ∧ Flds K G vs fs
  | .clo f Gc, v => v = .ref f ∧ Ex Gc G
  | .at _, _ => False
section
variable {K : PySem.W.Frag} {G G' H H' : Hp} {p : Addr} {a : AV} {v : V} {d : D}
theorem Own.mono (e : Ex G G') (h : Own K G H p d) (st : H' p = H p) : Own K G' H' p d := by
  cases d <;> first
    | exact h.elim
    | (obtain ⟨xs, h1, h2⟩ := h; exact ⟨xs, st.trans h1, h2.mono e⟩)
theorem Own.some (h : Own K G H p d) : H p ≠ none := by
  cases d <;> first
    | exact h.elim
    | (obtain ⟨xs, h1, h2⟩ := h; rw [h1]; exact nofun)
theorem Stands.mono (e : Ex G G') (h : Stands K G H p a) (st : H' p = H p) : Stands K G' H' p a := by
  cases a with
  | own b d => exact Own.mono e h st
  | pot b => obtain ⟨x, y, h1, h2, h3, h4⟩ := (show Pot H p from h); exact ⟨x, y, h1, h2, h3, st.trans h4⟩
  | _ => exact h.elim
theorem Stands.some (h : Stands K G H p a) : H p ≠ none := by
  cases a with
  | own b d => exact Own.some h
  | pot b => obtain ⟨x, y, h1, h2, h3, h4⟩ := (show Pot H p from h); rw [h4]; exact nofun
  | _ => exact h.elim
theorem Hold.own (h : Hold K G H a v) (o : a.isOwn = true) : ∃ p, v = .ref p ∧ G p = none ∧ Stands K G H p a := by
  cases a with
  | own b d => exact h
  | pot b => exact h
  | _ => cases o
theorem Hold.of_own (o : a.isOwn = true) (g : G p = none) (h : Stands K G H p a) : Hold K G H a (.ref p) := by
  cases a with
  | own b d => exact ⟨p, rfl, g, h⟩
  | pot b => exact ⟨p, rfl, g, h⟩
  | _ => cases o
/-- what is not owned stays with G -/
theorem Hold.still (e : Ex G G') (h : Hold K G H a v) (o : a.isOwn = false) : Hold K G' H' a v := by
  cases a with
  | dat d => exact Rp.mono e h
  | obj C fs => obtain ⟨x, dx, vs, h1, h2, h3⟩ := h; exact ⟨x, dx, vs, h1, e _ _ h2, Flds.mono e h3⟩
  | raw u => exact h
  | scr ns => obtain ⟨a, h1, h2⟩ := h; exact ⟨a, h1, ex_l e h2⟩
  | exn x C dd fs => obtain ⟨h1, vs, h2, h3⟩ := h; exact ⟨h1, vs, e _ _ h2, Flds.mono e h3⟩
  | clo f Gc => exact ⟨h.1, h.2.trans e⟩
  | «at» i => exact h.elim
  | _ => cases o
end
/-- no table, no code object that a table tells -/
def Soft (H : Hp) (p : Addr) : Prop := (∀ qs, H p ≠ some (.tbl qs)) ∧ ∀ q, H p ≠ some (CodeO p q)
theorem mut_none {H : Hp} {p : Addr} (h : H p = none) : Soft H p := ⟨(fun _ z => by rw [h] at z; cases z), (fun _ z => by rw [h] at z; cases z)⟩
theorem mut_of {H : Hp} {p : Addr} {o : HO} (h : H p = some o) (n : ∀ qs, o ≠ .tbl qs) (c : ∀ φ, o ≠ .ext φ) : Soft H p := ⟨(fun _ z => by rw [h] at z; exact n _ (Option.some.inj z)), (fun _ z => by rw [h] at z; exact c _ (Option.some.inj z))⟩
theorem mut_lst {H : Hp} {p : Addr} {xs : List V} (h : H p = some (.lst xs)) : Soft H p := mut_of h nofun nofun
theorem pot_mut {H : Hp} {p : Addr} (h : Pot H p) : Soft H p := by
  obtain ⟨x, y, _, _, _, s1⟩ := h
  exact mut_lst s1
theorem Stands.mut {K : PySem.W.Frag} {G H : Hp} {p : Addr} {a : AV} (h : Stands K G H p a) : Soft H p := by
  cases a with
  | own b d =>
    cases d with
    | list ds => obtain ⟨xs, s1, _⟩ := (show Own K G H p (.list ds) from h); exact mut_lst s1
    | dict es => obtain ⟨xs, s1, _⟩ := (show Own K G H p (.dict es) from h); exact mut_of s1 nofun nofun
    | _ => exact (show False from h).elim
  | pot b => exact pot_mut h
  | _ => exact h.elim
/-- the name that the lambdas of the def have whose code object has its table at P -/
def tabName : PySem.W.Frag → Addr → Option Str
  | [], _ => none
  | (_, o) :: r, P => match o.data with
    | .fields vs => match (vs[11]? : Option Value) with
      | some (.ref p) => if p = P then match (vs[1]? : Option Value) with
          | some (.str n _) => some ((n ++ ".<locals>.") ++ "<lambda>")
          | _ => none
        else tabName r P
      | _ => tabName r P
    | _ => tabName r P
abbrev TN (K : PySem.W.Frag) : Addr → Str → Prop := fun P q => tabName K P = some q
/-- all but ps stays, and the tables, which may only grow; N: the names told -/
structure Kept (N : Addr → Str → Prop) (ps : List Addr) (H0 H : Hp) : Prop where
  but : ∀ b o, b ∉ ps → H0 b = some o → (∀ qs, o ≠ .tbl qs) → H b = some o
  tbls : ∀ b qs, H0 b = some (.tbl qs) → ∃ more, H b = some (.tbl (qs ++ more))
  tabs : ∀ P q, N P q → TabS H0 P q → TabS H P q
theorem tabS_upd {H : Hp} {p P : Addr} {o : HO} {q : Str} (t : TabS H P q) (m : Soft H p) : TabS (upd H p o) P q := by
  obtain ⟨ps, h1, h2, h3⟩ := t
  refine ⟨ps, by rw [upd_ne fun z => m.1 ps (by rw [← z]; exact h1)]; exact h1, h2, fun pos cv hc => ?_⟩
  obtain ⟨cd, e1, e2⟩ := h3 pos cv hc
  exact ⟨cd, e1, by rw [upd_ne fun z => m.2 q (by rw [← z]; exact e2)]; exact e2⟩
theorem Kept.refl {N : Addr → Str → Prop} {ps : List Addr} {H : Hp} : Kept N ps H H := ⟨fun _ _ _ h _ => h, fun _ _ h => ⟨#[], by rw [h]; simp⟩, fun _ _ _ h => h⟩
theorem Kept.any {N : Addr → Str → Prop} {ps : List Addr} {H0 H : Hp} (k : Kept N ps H0 H) {b : Addr} {o : HO} (n : b ∉ ps) (h : H0 b = some o) : ∃ u, H b = some u := by
  cases o with
  | tbl qs => obtain ⟨m, e⟩ := k.tbls b qs h; exact ⟨_, e⟩
  | _ => exact ⟨_, k.but b _ n h nofun⟩
theorem Kept.upd {N : Addr → Str → Prop} {ps : List Addr} {H0 H : Hp} {p : Addr} {o : HO} (k : Kept N ps H0 H) (z : p ∈ ps ∨ H0 p = none) (m : Soft H p) : Kept N ps H0 (upd H p o) := by
  refine ⟨fun b u h1 h2 h3 => ?_, fun b qs h => ?_, fun P q n t => tabS_upd (k.tabs P q n t) m⟩
  · have ne : b ≠ p := fun e => by
      rcases z with z | z
      · exact h1 (by rw [e]; exact z)
      · rw [e, z] at h2
        cases h2
    rw [upd_ne ne]
    exact k.but b u h1 h2 h3
  · obtain ⟨more, e⟩ := k.tbls b qs h
    exact ⟨more, by rw [upd_ne fun z => m.1 _ (by rw [← z]; exact e)]; exact e⟩
theorem Kept.same {N : Addr → Str → Prop} {ps : List Addr} {H0 H H' : Hp} (k : Kept N ps H0 H) (s : ∀ b o, H b = some o → H' b = some o) : Kept N ps H0 H' :=
  ⟨fun b o h1 h2 h3 => s b o (k.but b o h1 h2 h3), fun b qs h => let ⟨more, e⟩ := k.tbls b qs h; ⟨more, s _ _ e⟩, fun P q n t => (k.tabs P q n t).ext s⟩
theorem Kept.keep {N : Addr → Str → Prop} {ps : List Addr} {H0 H : Hp} {b : Addr} (k : Kept N ps H0 H) (n : b ∉ ps) (s : H0 b ≠ none) (m : Soft H0 b) : H b = H0 b := by
  cases e : H0 b with
  | none => exact absurd e s
  | some o => exact k.but b o n e fun qs z => m.1 qs (by rw [e, z])
theorem Kept.wider {N : Addr → Str → Prop} {ps qs : List Addr} {H0 H : Hp} (k : Kept N ps H0 H) (s : ∀ b ∈ ps, b ∈ qs) : Kept N qs H0 H := ⟨fun b o h1 => k.but b o fun z => h1 (s b z), k.tbls, k.tabs⟩
theorem Kept.under {N : Addr → Str → Prop} {ps : List Addr} {H0 H1 H : Hp} (k : Kept N ps H1 H) (s : ∀ b o, H0 b = some o → H1 b = some o) : Kept N ps H0 H := ⟨fun b o h1 h2 => k.but b o h1 (s b o h2), fun b qs h => k.tbls b qs (s _ _ h), fun P q n t => k.tabs P q n (t.ext s)⟩
theorem Kept.fresh {N : Addr → Str → Prop} {ps : List Addr} {H0 H : Hp} {p : Addr} (k : Kept N (p :: ps) H0 H) (n : H0 p = none) : Kept N ps H0 H := ⟨fun b o h1 h2 => k.but b o (fun z => by
    rcases List.mem_cons.mp z with y | y
    · rw [y, n] at h2
      cases h2
    · exact h1 y) h2, k.tbls, k.tabs⟩
theorem kept_but {N : Addr → Str → Prop} {H H' : Hp} {p : Addr} (bt : But p H H') (m : Soft H p) : Kept N [p] H H' :=
  ⟨fun b o h1 h2 _ => bt b o (fun z => h1 (by rw [z]; exact List.mem_singleton_self _)) h2, fun b qs h => ⟨#[], by rw [bt b _ (fun z => m.1 qs (by rw [← z]; exact h)) h]; simp⟩, fun P q _ t => by
    obtain ⟨ps, h1, h2, h3⟩ := t
    refine ⟨ps, bt P _ (fun z => m.1 ps (by rw [← z]; exact h1)) h1, h2, fun pos cv hc => ?_⟩
    obtain ⟨cd, e1, e2⟩ := h3 pos cv hc
    exact ⟨cd, e1, bt cd _ (fun z => m.2 q (by rw [← z]; exact e2)) e2⟩⟩
theorem kept_same {N : Addr → Str → Prop} {ps : List Addr} {H H' : Hp} (s : ∀ b o, H b = some o → H' b = some o) : Kept N ps H H' := Kept.refl.same s
/-- a call -/
theorem Kept.then {N : Addr → Str → Prop} {ps qs : List Addr} {H0 H H' : Hp} (k : Kept N ps H0 H) (c : Kept N qs H H') (sub : ∀ b ∈ qs, b ∈ ps ∨ H0 b = none) : Kept N ps H0 H' := by
  refine ⟨fun b o h1 h2 h3 => c.but b o (fun z => ?_) (k.but b o h1 h2 h3) h3, fun b us h => ?_, fun P q n t => c.tabs P q n (k.tabs P q n t)⟩
  · rcases sub b z with y | y
    · exact h1 y
    · rw [h2] at y
      cases y
  · obtain ⟨m1, e1⟩ := k.tbls b us h
    obtain ⟨m2, e2⟩ := c.tbls b _ e1
    exact ⟨m1 ++ m2, e2.trans (by rw [Array.append_assoc])⟩
structure Ent where
  vs : List V
  ps : List Addr
  H0 : Hp
  G0 : Hp
  F : Hp
/-- p belongs to no slot -/
def Loose (ρ : S) (σ : L2.St) (p : Addr) : Prop := ∀ (i : Nat) (a : AV), ρ[i]? = some (some a) → a.isOwn = true → σ[i]? ≠ some (some (.ref p))
theorem pot_some {H : Hp} {p : Addr} (h : Pot H p) : H p ≠ none := by
  obtain ⟨x, y, _, _, _, e⟩ := h
  rw [e]
  exact nofun
theorem pot_at {H H' : Hp} {p : Addr} (h : Pot H p) (e : H' p = H p) : Pot H' p := by
  obtain ⟨x, y, h1, h2, h3, h4⟩ := h
  exact ⟨x, y, h1, h2, h3, e.trans h4⟩
structure Rel (K : PySem.W.Frag) (E : Ent) (ρ : S) (G : Hp) (σ : L2.St) (H : Hp) : Prop where
  sub : Ex G H
  len : ρ.length = σ.length
  slot : ∀ (i : Nat) (a : AV), ρ[i]? = some (some a) → ∃ v, σ[i]? = some (some v) ∧ Hold K G H a v
  apart : ∀ (i j : Nat) (a b : AV) (v : V), i ≠ j → ρ[i]? = some (some a) → ρ[j]? = some (some b) → a.isOwn = true → b.isOwn = true → σ[i]? = some (some v) → σ[j]? = some (some v) → False
  mine : ∀ (i : Nat) (a : AV) (p : Addr), ρ[i]? = some (some a) → a.isOwn = true → σ[i]? = some (some (.ref p)) → (a.isPar = true ∧ p ∈ E.ps) ∨ (a.isPar = false ∧ E.H0 p = none)
  par : ∀ (i : Nat) (a : AV), ρ[i]? = some (some a) → a.isPar = true → σ[i]? = (E.vs[i]?).map some
  grow : Ex E.G0 G
  new : ∀ b o, G b = some o → E.G0 b = some o ∨ E.H0 b = none
  but : Kept (TN K) E.ps E.H0 H
  live : ∀ p ∈ E.ps, Pot H p
  h0p : ∀ p ∈ E.ps, E.H0 p ≠ none
  frm : ∀ b o, E.F b = some o → H b = some o ∧ G b = none ∧ Loose ρ σ b
  fno : ∀ b qs, E.F b ≠ some (.tbl qs)
  gno : ∀ b qs, G b ≠ some (.tbl qs)
section
variable {K : PySem.W.Frag} {E : Ent} {ρ : S} {G H : Hp} {σ : L2.St} {p : Addr} {o : HO} {a : AV} {v : V} {i : Nat}
theorem Rel.h0 (r : Rel K E ρ G σ H) (n : H p = none) : E.H0 p = none := by
  cases e : E.H0 p with
  | none => rfl
  | some o =>
    by_cases hp : p ∈ E.ps
    · exact absurd n (pot_some (r.live p hp))
    · obtain ⟨u, eu⟩ := r.but.any hp e
      rw [eu] at n
      cases n
theorem Rel.g0 (r : Rel K E ρ G σ H) (n : H p = none) : G p = none := by
  cases e : G p with
  | none => rfl
  | some o =>
    rw [r.sub p o e] at n
    cases n
theorem Rel.loose (r : Rel K E ρ G σ H) (n : H p = none) : Loose ρ σ p := fun i a h1 h2 h3 => by
  obtain ⟨v, e, hh⟩ := r.slot i a h1
  obtain ⟨q, rfl, _, st⟩ := hh.own h2
  rw [h3] at e
  cases Option.some.inj (Option.some.inj e)
  exact st.some n
/-- all but p stays; p belongs to no slot -/
theorem Rel.f0 (r : Rel K E ρ G σ H) (n : H p = none) : E.F p = none := by
  cases e : E.F p with
  | none => rfl
  | some o => rw [(r.frm p o e).1] at n; cases n
theorem Rel.other (r : Rel K E ρ G σ H) (l : Loose ρ σ p) (g : G p = none) (z : E.H0 p = none) (np : p ∉ E.ps) (fp : E.F p = none) (m : Soft H p) : Rel K E ρ G σ (upd H p o) := by
  refine ⟨fun b u e => ?_, r.len, fun i a h1 => ?_, r.apart, r.mine, r.par, r.grow, r.new, r.but.upd (.inr z) m, fun q hq => ?_, r.h0p, fun b u h => ?_, r.fno, r.gno⟩
  · rw [upd_ne (ne_of_none e g)]
    exact r.sub b u e
  · obtain ⟨v, e, hh⟩ := r.slot i a h1
    refine ⟨v, e, ?_⟩
    cases ho : a.isOwn with
    | false => exact hh.still (Ex.refl G) ho
    | true =>
      obtain ⟨q, rfl, gq, st⟩ := hh.own ho
      exact Hold.of_own ho gq (st.mono (Ex.refl G) (upd_ne fun e' => l i a h1 ho (by rw [e, e'])))
  · exact pot_at (r.live q hq) (upd_ne fun (e : q = p) => np (e ▸ hq))
  · obtain ⟨h1, h2, h3⟩ := r.frm b u h
    exact ⟨(upd_ne (ne_of_none h fp)).trans h1, h2, h3⟩
theorem Rel.notps (r : Rel K E ρ G σ H) (n : H p = none) : p ∉ E.ps := fun h => pot_some (r.live p h) n
theorem Rel.alloc (r : Rel K E ρ G σ H) (n : H p = none) : Rel K E ρ G σ (upd H p o) := r.other (r.loose n) (r.g0 n) (r.h0 n) (r.notps n) (r.f0 n) (mut_none n)
/-- what stands at p is to stay from now on -/
theorem gno_upd {G : Hp} {p : Addr} {o : HO} (g : ∀ b qs, G b ≠ some (.tbl qs)) (n : ∀ qs, o ≠ .tbl qs) : ∀ b qs, upd G p o b ≠ some (.tbl qs) := fun b qs h => by
  by_cases hb : b = p
  · rw [hb, upd_same] at h
    exact n _ (Option.some.inj h)
  · rw [upd_ne hb] at h
    exact g b qs h
theorem Rel.freeze (r : Rel K E ρ G σ H) (e : H p = some o) (l : Loose ρ σ p) (g : G p = none) (z : E.H0 p = none ∧ E.F p = none) (nt : ∀ qs, o ≠ .tbl qs := by nofun) : Rel K E ρ (upd G p o) σ H ∧ Ex G (upd G p o) := by
  have gx : Ex G (upd G p o) := fun b u h => by rw [upd_ne (ne_of_none h g)]; exact h
  refine ⟨⟨fun b u h => ?_, r.len, fun i a h1 => ?_, r.apart, r.mine, r.par, r.grow.trans gx, fun b u h => ?_, r.but, r.live, r.h0p, fun b u h => ?_, r.fno, gno_upd r.gno nt⟩, gx⟩
  · by_cases hb : b = p
    · rw [hb, upd_same] at h
      cases h
      rw [hb]
      exact e
    · rw [upd_ne hb] at h
      exact r.sub b u h
  · obtain ⟨v, ev, hh⟩ := r.slot i a h1
    refine ⟨v, ev, ?_⟩
    cases ho : a.isOwn with
    | false => exact hh.still gx ho
    | true =>
      obtain ⟨q, rfl, gq, st⟩ := hh.own ho
      refine Hold.of_own ho ?_ (st.mono gx rfl)
      rw [upd_ne fun e' => l i a h1 ho (by rw [ev, e'])]
      exact gq
  · by_cases hb : b = p
    · rw [hb]
      exact .inr z.1
    · rw [upd_ne hb] at h
      exact r.new b u h
  · obtain ⟨h1, h2, h3⟩ := r.frm b u h
    exact ⟨h1, (upd_ne (ne_of_none h z.2)).trans h2, h3⟩
/-- a new thing that stays -/
theorem Rel.made (r : Rel K E ρ G σ H) (n : H p = none) (nt : ∀ qs, o ≠ .tbl qs := by nofun) : Rel K E ρ (upd G p o) σ (upd H p o) ∧ Ex G (upd G p o) :=
  (r.alloc n).freeze upd_same (r.loose n) (r.g0 n) ⟨r.h0 n, r.f0 n⟩ nt
/-- what slot i owns is changed -/
theorem Rel.mut (r : Rel K E ρ G σ H) (h : ρ[i]? = some (some a)) (ho : a.isOwn = true) (e : σ[i]? = some (some (.ref p))) {a' : AV} (ho' : a'.isOwn = true) (hp : a'.isPar = a.isPar) (hp2 : a'.isPar = true → a' = .pot true) (st : Stands K G (upd H p o) p a') :
    Rel K E (ρ.set i (some a')) G σ (upd H p o) := by
  have gp : G p = none := by
    obtain ⟨v, ev, hh⟩ := r.slot i a h
    obtain ⟨q, rfl, gq, _⟩ := hh.own ho
    rw [e] at ev
    cases ev
    exact gq
  have mp : Soft H p := by
    obtain ⟨v, ev, hh⟩ := r.slot i a h
    obtain ⟨q, rfl, _, st⟩ := hh.own ho
    rw [e] at ev
    cases ev
    exact st.mut
  have at_ : ∀ (j : Nat) (b : AV), (ρ.set i (some a'))[j]? = some (some b) → (j = i ∧ b = a') ∨ (j ≠ i ∧ ρ[j]? = some (some b)) := fun j b hj => by
    rw [List.getElem?_set] at hj
    split at hj
    · rename_i eij
      split at hj
      · cases hj
        exact .inl ⟨eij.symm, rfl⟩
      · cases hj
    · rename_i nij
      exact .inr ⟨fun z => nij z.symm, hj⟩
  refine ⟨fun b u z => ?_, by rw [List.length_set]; exact r.len, fun j b hj => ?_, fun j l b c v njl hj hl ob oc ej el => ?_, fun j b q hj ob ej => ?_, fun j b hj ob => ?_, r.grow, r.new, r.but.upd ?_ mp, fun q hq => ?_, r.h0p, fun b u hb => ?_, r.fno, r.gno⟩
  · rw [upd_ne (ne_of_none z gp)]
    exact r.sub b u z
  · rcases at_ j b hj with ⟨rfl, rfl⟩ | ⟨nj, hj⟩
    · exact ⟨_, e, Hold.of_own ho' gp st⟩
    · obtain ⟨v, ev, hh⟩ := r.slot j b hj
      refine ⟨v, ev, ?_⟩
      cases hob : b.isOwn with
      | false => exact hh.still (Ex.refl G) hob
      | true =>
        obtain ⟨q, rfl, gq, sq⟩ := hh.own hob
        refine Hold.of_own hob gq (sq.mono (Ex.refl G) (upd_ne fun z => ?_))
        subst z
        exact r.apart j i b a _ nj hj h hob ho ev e
  · rcases at_ j b hj with ⟨rfl, rfl⟩ | ⟨nj, hj⟩
    · rcases at_ l c hl with ⟨rfl, rfl⟩ | ⟨nl, hl⟩
      · exact njl rfl
      · exact r.apart _ l a c v njl h hl ho oc ej el
    · rcases at_ l c hl with ⟨el1, ec1⟩ | ⟨nl, hl⟩
      · rw [el1] at el njl
        exact r.apart j i b a v njl hj h ob ho ej el
      · exact r.apart j l b c v njl hj hl ob oc ej el
  · rcases at_ j b hj with ⟨rfl, rfl⟩ | ⟨nj, hj⟩
    · rw [hp]
      exact r.mine _ a q h ho ej
    · exact r.mine j b q hj ob ej
  · rcases at_ j b hj with ⟨rfl, rfl⟩ | ⟨nj, hj⟩
    · exact r.par _ a h (hp ▸ ob)
    · exact r.par j b hj ob
  · rcases r.mine i a p h ho e with y | y
    · exact .inl y.2
    · exact .inr y.2
  · by_cases z : q = p
    · subst z
      rcases r.mine i a q h ho e with y | y
      · have := hp2 (hp.trans y.1)
        subst this
        exact st
      · have hl := r.live q hq
        exfalso
        have := r.h0p q hq
        exact this y.2
    · exact pot_at (r.live q hq) (upd_ne z)
  · obtain ⟨h1, h2, h3⟩ := r.frm b u hb
    refine ⟨(upd_ne fun z => h3 i a h ho (by rw [e, z])).trans h1, h2, fun j c hj oc ej => ?_⟩
    rcases at_ j c hj with ⟨y1, y2⟩ | ⟨nj, hj⟩
    · rw [y1] at ej
      exact h3 i a h ho ej
    · exact h3 j c hj oc ej
theorem getset {α : Type} {l : List (Option α)} {i j : Nat} {a b : α} (h : (l.set i (some a))[j]? = some (some b)) : (j = i ∧ b = a) ∨ (j ≠ i ∧ l[j]? = some (some b)) := by
  rw [List.getElem?_set] at h
  split at h
  · rename_i e
    split at h
    · cases h
      exact .inl ⟨e.symm, rfl⟩
    · cases h
  · rename_i n
    exact .inr ⟨fun z => n z.symm, h⟩
theorem getnone {α : Type} {l : List (Option α)} {i j : Nat} {b : α} (h : (l.set i none)[j]? = some (some b)) : j ≠ i ∧ l[j]? = some (some b) := by
  rw [List.getElem?_set] at h
  split at h
  · split at h <;> cases h
  · rename_i n
    exact ⟨fun z => n z.symm, h⟩
/-- a slot is forgotten, whatever it then holds -/
theorem Rel.forget (r : Rel K E ρ G σ H) {u : Option V} : Rel K E (ρ.set i none) G (σ.set i u) H := by
  have ne : ∀ {j : Nat} {b : AV}, (ρ.set i none)[j]? = some (some b) → j ≠ i ∧ ρ[j]? = some (some b) ∧ (σ.set i u)[j]? = σ[j]? := fun {j b} hj => by
    obtain ⟨n, h⟩ := getnone hj
    exact ⟨n, h, by rw [List.getElem?_set_ne fun z => n z.symm]⟩
  refine ⟨r.sub, by rw [List.length_set, List.length_set]; exact r.len, fun j b hj => ?_, fun j l b c v njl hj hl ob oc ej el => ?_, fun j b q hj ob ej => ?_, fun j b hj ob => ?_, r.grow, r.new, r.but, r.live, r.h0p, fun b u hb => ?_, r.fno, r.gno⟩
  · obtain ⟨n, h, e⟩ := ne hj
    rw [e]
    exact r.slot j b h
  · obtain ⟨n, h, e⟩ := ne hj
    obtain ⟨n', h', e'⟩ := ne hl
    rw [e] at ej
    rw [e'] at el
    exact r.apart j l b c v njl h h' ob oc ej el
  · obtain ⟨n, h, e⟩ := ne hj
    rw [e] at ej
    exact r.mine j b q h ob ej
  · obtain ⟨n, h, e⟩ := ne hj
    rw [e]
    exact r.par j b h ob
  · obtain ⟨h1, h2, h3⟩ := r.frm b u hb
    refine ⟨h1, h2, fun j c hj oc ej => ?_⟩
    obtain ⟨n, h, e⟩ := ne hj
    rw [e] at ej
    exact h3 j c h oc ej
/-- a slot is given a value -/
theorem Rel.put (r : Rel K E ρ G σ H) (hh : Hold K G H a v) (np : a.isPar = false) (no : a.isOwn = true → ∀ p, v = .ref p → (E.H0 p = none ∧ E.F p = none) ∧ Loose ρ σ p) : Rel K E (ρ.set i (some a)) G (σ.set i (some v)) H := by
  have ne : ∀ {j : Nat} {b : AV}, (ρ.set i (some a))[j]? = some (some b) → (j = i ∧ b = a ∧ (σ.set i (some v))[j]? = some (some v)) ∨ (j ≠ i ∧ ρ[j]? = some (some b) ∧ (σ.set i (some v))[j]? = σ[j]?) := fun {j b} hj => by
    have hj0 := hj
    rcases getset hj with ⟨e1, e2⟩ | ⟨n, h⟩
    · refine .inl ⟨e1, e2, ?_⟩
      have : i < σ.length := by
        rw [← r.len]
        have := (List.getElem?_eq_some_iff.mp hj0).1
        rw [List.length_set] at this
        omega
      rw [e1, List.getElem?_set, if_pos rfl, if_pos this]
    · exact .inr ⟨n, h, by rw [List.getElem?_set_ne fun z => n z.symm]⟩
  refine ⟨r.sub, by rw [List.length_set, List.length_set]; exact r.len, fun j b hj => ?_, fun j l b c u njl hj hl ob oc ej el => ?_, fun j b q hj ob ej => ?_, fun j b hj ob => ?_, r.grow, r.new, r.but, r.live, r.h0p, fun b u hb => ?_, r.fno, r.gno⟩
  · rcases ne hj with ⟨_, e2, e⟩ | ⟨n, h, e⟩
    · rw [e, e2]
      exact ⟨v, rfl, hh⟩
    · rw [e]
      exact r.slot j b h
  · rcases ne hj with ⟨e1, e2, e⟩ | ⟨n, h, e⟩
    · rcases ne hl with ⟨f1, f2, f⟩ | ⟨m, g, f⟩
      · exact njl (e1.trans f1.symm)
      · rw [e] at ej
        cases ej
        rw [f] at el
        rw [e2] at ob
        obtain ⟨p, hv, _⟩ := hh.own ob
        exact (no ob p hv).2 l c g oc (by rw [el, hv])
    · rcases ne hl with ⟨f1, f2, f⟩ | ⟨m, g, f⟩
      · rw [f] at el
        cases el
        rw [e] at ej
        rw [f2] at oc
        obtain ⟨p, hv, _⟩ := hh.own oc
        exact (no oc p hv).2 j b h ob (by rw [ej, hv])
      · rw [e] at ej
        rw [f] at el
        exact r.apart j l b c u njl h g ob oc ej el
  · rcases ne hj with ⟨e1, e2, e⟩ | ⟨n, h, e⟩
    · rw [e] at ej
      cases ej
      rw [e2] at ob
      rw [e2]
      exact .inr ⟨np, (no ob q rfl).1.1⟩
    · rw [e] at ej
      exact r.mine j b q h ob ej
  · rcases ne hj with ⟨e1, e2, e⟩ | ⟨n, h, e⟩
    · rw [e2, np] at ob
      cases ob
    · rw [e]
      exact r.par j b h ob
  · obtain ⟨h1, h2, h3⟩ := r.frm b u hb
    refine ⟨h1, h2, fun j c hj oc ej => ?_⟩
    rcases ne hj with ⟨e1, e2, e⟩ | ⟨n, h, e⟩
    · rw [e] at ej
      cases ej
      rw [e2] at oc
      rw [(no oc b rfl).1.2] at hb
      cases hb
    · rw [e] at ej
      exact h3 j c h oc ej
/-- what slot i owns is to stay from now on -/
theorem Rel.frz {d : D} (r : Rel K E ρ G σ H) (h : ρ[i]? = some (some (.own false d))) : ∃ p o, σ[i]? = some (some (.ref p)) ∧ Rp K (upd G p o) (.ref p) d ∧ Ex G (upd G p o) ∧ Rel K E (ρ.set i (some (.dat d))) (upd G p o) σ H := by
  obtain ⟨v, ev, hh⟩ := r.slot i _ h
  obtain ⟨p, rfl, gp, st⟩ := hh.own rfl
  have h0 : E.H0 p = none := by
    rcases r.mine i _ p h rfl ev with y | y
    · cases y.1
    · exact y.2
  have key : ∀ o, H p = some o → Ex G (upd G p o) ∧ (Rp K (upd G p o) (.ref p) d → Rel K E (ρ.set i (some (.dat d))) (upd G p o) σ H) := fun o eo => by
    have nt : ∀ qs, o ≠ .tbl qs := fun qs z => st.mut.1 qs (by rw [eo, z])
    have gx : Ex G (upd G p o) := fun b u z => by rw [upd_ne (ne_of_none z gp)]; exact z
    refine ⟨gx, fun rp => ⟨fun b u z => ?_, by rw [List.length_set]; exact r.len, fun j b hj => ?_, fun j l b c v njl hj hl ob oc ej el => ?_, fun j b q hj ob ej => ?_, fun j b hj ob => ?_, r.grow.trans gx, fun b u z => ?_, r.but, r.live, r.h0p, fun b u hb => ?_, r.fno, gno_upd r.gno nt⟩⟩
    · by_cases hb : b = p
      · rw [hb, upd_same] at z
        cases z
        rw [hb]
        exact eo
      · rw [upd_ne hb] at z
        exact r.sub b u z
    · rcases getset hj with ⟨rfl, rfl⟩ | ⟨nj, hj⟩
      · exact ⟨_, ev, rp⟩
      · obtain ⟨w, ew, hw⟩ := r.slot j b hj
        refine ⟨w, ew, ?_⟩
        cases hob : b.isOwn with
        | false => exact hw.still gx hob
        | true =>
          obtain ⟨q, rfl, gq, sq⟩ := hw.own hob
          refine Hold.of_own hob ?_ (sq.mono gx rfl)
          rw [upd_ne fun z => ?_]
          · exact gq
          · rw [z] at ew
            exact r.apart j i b _ _ nj hj h hob rfl ew ev
    · rcases getset hj with ⟨_, e2⟩ | ⟨nj, hj⟩
      · rw [e2] at ob
        cases ob
      · rcases getset hl with ⟨_, e2⟩ | ⟨nl, hl⟩
        · rw [e2] at oc
          cases oc
        · exact r.apart j l b c v njl hj hl ob oc ej el
    · rcases getset hj with ⟨_, e2⟩ | ⟨nj, hj⟩
      · rw [e2] at ob
        cases ob
      · exact r.mine j b q hj ob ej
    · rcases getset hj with ⟨_, e2⟩ | ⟨nj, hj⟩
      · rw [e2] at ob
        cases ob
      · exact r.par j b hj ob
    · by_cases hb : b = p
      · rw [hb]
        exact .inr h0
      · rw [upd_ne hb] at z
        exact r.new b u z
    · obtain ⟨h1, h2, h3⟩ := r.frm b u hb
      refine ⟨h1, (upd_ne fun y => h3 i _ h rfl (by rw [ev, y])).trans h2, fun j c hj oc ej => ?_⟩
      rcases getset hj with ⟨_, e2⟩ | ⟨nj, hj⟩
      · rw [e2] at oc
        cases oc
      · exact h3 j c hj oc ej
  have st : Own K G H p d := st
  cases d with
  | list ds =>
    obtain ⟨xs, e1, e2⟩ := st
    have rp : Rp K (upd G p (.lst xs)) (.ref p) (.list ds) := .lst upd_same (e2.mono (key _ e1).1)
    exact ⟨p, _, ev, rp, (key _ e1).1, (key _ e1).2 rp⟩
  | dict es =>
    obtain ⟨xs, e1, e2⟩ := st
    have rp : Rp K (upd G p (.dK xs)) (.ref p) (.dict es) := .dct upd_same (e2.mono (key _ e1).1)
    exact ⟨p, _, ev, rp, (key _ e1).1, (key _ e1).2 rp⟩
  | _ => exact st.elim
/-- p is kept aside -/
def Ent.aside (E : Ent) (p : Addr) (o : HO) : Ent := { E with F := upd E.F p o }
theorem Rel.aside (r : Rel K E ρ G σ H) (e : H p = some o) (g : G p = none) (l : Loose ρ σ p) (nt : ∀ qs, o ≠ .tbl qs := by nofun) : Rel K (E.aside p o) ρ G σ H :=
  ⟨r.sub, r.len, r.slot, r.apart, r.mine, r.par, r.grow, r.new, r.but, r.live, r.h0p, fun b u h => by
    have h : upd E.F p o b = some u := h
    by_cases hb : b = p
    · rw [hb, upd_same] at h
      cases h
      rw [hb]
      exact ⟨e, g, l⟩
    · rw [upd_ne hb] at h
      exact r.frm b u h, fun b qs h => by
    have h : upd E.F p o b = some (.tbl qs) := h
    by_cases hb : b = p
    · rw [hb, upd_same] at h
      exact nt _ (Option.some.inj h)
    · rw [upd_ne hb] at h
      exact r.fno b qs h, r.gno⟩
theorem Rel.back (r : Rel K (E.aside p o) ρ G σ H) (f : E.F p = none) : Rel K E ρ G σ H ∧ H p = some o ∧ G p = none ∧ Loose ρ σ p :=
  ⟨⟨r.sub, r.len, r.slot, r.apart, r.mine, r.par, r.grow, r.new, r.but, r.live, r.h0p, fun b u h => r.frm b u ((upd_ne (ne_of_none h f)).trans h), fun b qs h => r.fno b qs ((upd_ne (ne_of_none h f)).trans h), r.gno⟩, r.frm p o upd_same⟩
end
end Tr
set_option Elab.async false
set_option linter.all false
set_option maxRecDepth 100000
namespace Tr
open PySem PySem.Spec PyProof.Rows L2 Evl Kc
structure Exn where
  cls : Addr
  fs : List (Str × D)
abbrev KE := AV → S → Prop
abbrev KX := Exn → S → Prop
abbrev FE := S → KE → KX → Prop
abbrev FT := S → (Bool → S → Prop) → KX → Prop
abbrev FA := S → (List AV → S → Prop) → KX → Prop
/-- the value of an expression -/
def Res (K : PySem.W.Frag) (E : Ent) (ρ : S) (G : Hp) (σ : L2.St) (H : Hp) (a : AV) (v : V) : Prop :=
  (∃ i, a = .at i ∧ σ[i]? = some (some v)) ∨ (a.isOwn = false ∧ Hold K G H a v) ∨ (a.isOwn = true ∧ a.isPar = false ∧ ∃ p, v = .ref p ∧ G p = none ∧ Stands K G H p a ∧ (E.H0 p = none ∧ E.F p = none) ∧ Loose ρ σ p)
def XRes (K : PySem.W.Frag) (G : Hp) (c : Exn) (dd : Addr) : Prop := ∃ vs, G dd = some (.xd vs) ∧ Flds K G vs c.fs
def LkX (K : PySem.W.Frag) (E : Ent) (x : KX) (W : WX) : Prop := ∀ c ρ' G' σ' dd H', Rel K E ρ' G' σ' H' → XRes K G' c dd → x c ρ' → W (.ref c.cls) (some dd) σ' H'
def LkE (K : PySem.W.Frag) (E : Ent) (G : Hp) (σ : L2.St) (k : KE) (Q : VK) : Prop := ∀ a ρ' G' v H', Ex G G' → Rel K E ρ' G' σ H' → Res K E ρ' G' σ H' a v → k a ρ' → Q v H'
def LkA (K : PySem.W.Frag) (E : Ent) (G : Hp) (σ : L2.St) (k : List AV → S → Prop) (Q : List V → Hp → Prop) : Prop := ∀ as ρ' G' vs H', Ex G G' → Rel K E ρ' G' σ H' → Paired (fun a v => a.isOwn = false ∧ Res K E ρ' G' σ H' a v) as vs → k as ρ' → Q vs H'
def LkT (K : PySem.W.Frag) (E : Ent) (G : Hp) (σ : L2.St) (k : Bool → S → Prop) (Q : Bool → Hp → Prop) : Prop := ∀ b ρ' G' H', Ex G G' → Rel K E ρ' G' σ H' → k b ρ' → Q b H'
/-- classes whose errors may be raised while another is handled: nothing is known of their context -/
def Lax (mg : Str → Option Value) (c : Value) : Prop := mg "InvalidText" = some c ∨ mg "InvalidCommand" = some c
def laxW (mg : Str → Option Value) (W : WX) : WX := fun c d σ H => Lax mg c ∧ W c d σ H
/-- errors are taken: with no context, or of a lax class -/
def TakesL (X : Cx) (W : WX) : Prop := L2N.Takes X W ∧ L2.Takes X (laxW X.mg W)
/-- what is known of an error that a def lets out -/
def CXL (P : Program) (w : World) (mg : Str → Option Value) : CXT := fun ol H s E u s2 => L2N.CX P w ol H s E u s2 ∨ L2.CX P w ol H s (fun c d H' => Lax mg c ∧ E c d H') u s2
theorem cxl_no {P : Program} {w : World} {mg : Str → Option Value} {ol : List Env} {H : Hp} {s s2 : Shared} {u : Value} (h : CXL P w mg ol H s (fun _ _ _ => False) u s2) : False := by
  rcases h with ⟨_, _, _, _, _, _, _, _, _, _, _, _, no⟩ | ⟨_, _, _, _, _, _, _, _, _, _, _, _, no⟩
  · exact no
  · exact no.2
theorem passN {X : Cx} : Passes (CXL X.prog X.w X.mg) X E0 := fun _ _ _ _ _ _ _ h => (cxl_no h).elim
theorem passT {X : Cx} {W : WX} (tk : TakesL X W) (σ : L2.St) : PassesAt (CXL X.prog X.w X.mg) X σ (WE W σ) := fun ps H s e s2 I c => c.elim (fun c => L2N.passAt tk.1 σ ps H s e s2 I c) (fun c => L2.passAt tk.2 σ ps H s e s2 I c)
theorem tkl_of {X : Cx} {E : XK} (hs : X.stack = X.env :: X.outer) (hf : X.env.frame = some X.env.locals) (hex : X.ex = []) {E1 : Value → Shared → Prop}
    (hx : X.xe = fun e s2 => wpAny (model X.prog X.w) X.A (leaving X.env e) (fun _ s3 => CXL X.prog X.w X.mg X.outer X.H_0 X.s_0 E e s3) E1 s2) : TakesL X (fun c d _ H => E c d H) :=
  ⟨fun u s2 x => by
    rw [hx]
    exact wpAny_mono (L2N.XE.leave (W := fun c d _ H => E c d H) (E := E) hs hf hex (fun _ _ _ _ h => h) x) (fun _ _ h => .inl h) fun _ _ h => h, fun u s2 x => by
    rw [hx]
    exact wpAny_mono (L2.XE.leave (W := laxW X.mg fun c d _ H => E c d H) (E := fun c d H => Lax X.mg c ∧ E c d H) hs hf hex (fun _ _ _ _ h => h) x) (fun _ _ h => .inr h) fun _ _ h => h⟩
theorem tk0 {X : Cx} : TakesL X (fun _ _ _ _ => False) := ⟨fun _ _ ⟨_, _, _, _, _, _, _, _, _, _, _, _, _, _, _, _, w⟩ => w.elim, fun _ _ ⟨_, _, _, _, _, _, _, _, _, _, _, _, _, _, _, _, w⟩ => w.2.elim⟩
theorem sky_zc {B : Heap} {l : List Env} {a L : Addr} {c : Value} {d : Option Addr} {h : Heap} (k : Sky B l a (L2N.Zn c d) L h) : Sky B l a (Zc c d) L h := by
  rcases k with ⟨k1, k2, k3, o, r, k4, k5, k6⟩ | ⟨k1, k2, k3, o, r, T, oT, ts, k4, k5, k6⟩ | ⟨k1, k2, k3, o, r, T, oT, ts, k4, k5, k6⟩
  · exact .inl ⟨k1, k2, k3, o, r, k4, k5.zc, k6⟩
  · exact .inr (.inl ⟨k1, k2, k3, o, r, T, oT, ts, k4, k5.zc, k6⟩)
  · exact .inr (.inr ⟨k1, k2, k3, o, r, T, oT, ts, k4, k5.zc, k6⟩)
/-- who takes any error takes these -/
theorem wide {X : Cx} {W : WX} (t : L2.Takes X W) : TakesL X W := ⟨fun u s2 ⟨a, B, sI, ps, σ, H, c, d, eu, I, nb, up, sky, na, os, ag, w⟩ => t u s2 ⟨a, B, sI, ps, σ, H, c, d, eu, I, nb, up, sky_zc sky, na, os, ag, w⟩, t.imp fun _ _ _ _ h => h.2⟩
/-- errors are let go; what the def knows of tables is known at the entry -/
def TakesT (X : Cx) (W : WX) (E : Ent) : Prop := TakesL X W ∧ (X.stack = X.env :: X.outer → (∀ z, X.fn z = true) → ∀ P q, LamX.TabS X.H_0 P q → LamX.TabS E.H0 P q)
theorem no_self {α : Type} {a : α} {l : List α} (h : l = a :: l) : False := by
  have z := congrArg List.length h
  rw [List.length_cons] at z
  omega
def RefE (X : Cx) (t : TE) (f : FE) : Prop := ∀ (W : WX) (E : Ent) (ρ : S) (G : Hp) (σ : L2.St) (H : Hp) (Q : VK) (k : KE) (x : KX), TakesT X W E → Rel X.K E ρ G σ H → LkX X.K E x W → LkE X.K E G σ k Q → f ρ k x → t σ H Q
def RefT (X : Cx) (t : TT) (f : FT) : Prop := ∀ (W : WX) (E : Ent) (ρ : S) (G : Hp) (σ : L2.St) (H : Hp) (Q : Bool → Hp → Prop) (k : Bool → S → Prop) (x : KX), TakesT X W E → Rel X.K E ρ G σ H → LkX X.K E x W → LkT X.K E G σ k Q → f ρ k x → t σ H Q
def RefA (X : Cx) (t : TA) (f : FA) : Prop := ∀ (W : WX) (E : Ent) (ρ : S) (G : Hp) (σ : L2.St) (H : Hp) (Q : List V → Hp → Prop) (k : List AV → S → Prop) (x : KX), TakesT X W E → Rel X.K E ρ G σ H → LkX X.K E x W → LkA X.K E G σ k Q → f ρ k x → t σ H Q
def wE (X : Cx) (e : Expr) : TE := fun σ H Q => ∀ (pins : List (Addr × Obj)) (s : Shared), Inv X pins σ H s → wpAny (model X.prog X.w) X.A (eval e X.env) (EP X pins σ Q) X.xe s
def wT (X : Cx) (e : Expr) : TT := fun σ H Q => ∀ (pins : List (Addr × Obj)) (s : Shared), Inv X pins σ H s → wpAny (model X.prog X.w) X.A (isTrue e X.env (eval e X.env)) (TP X pins σ Q) X.xe s
def wA (X : Cx) (es : List Expr) : TA := fun σ H Q => ∀ (pos : Pos) (pins : List (Addr × Obj)) (s : Shared), Inv X pins σ H s → wpAny (model X.prog X.w) X.A (spliced (backTo pos (starEach es X.env))) (AP X pins σ Q) X.xe s
theorem pe_w {X : Cx} {e : Expr} : PE X e (wE X e) := ⟨fun pins s _ _ _ I h => h pins s I⟩
theorem pt_w {X : Cx} {e : Expr} : PT X e (wT X e) := ⟨fun pins s _ _ _ I h => h pins s I⟩
theorem pa_w {X : Cx} {e : List Expr} : PA X e (wA X e) := ⟨fun pos pins s _ _ _ I h => h pos pins s I⟩
def TrE (X : Cx) (e : Expr) (f : FE) : Prop := RefE X (wE X e) f
def TrT (X : Cx) (e : Expr) (f : FT) : Prop := RefT X (wT X e) f
def TrA (X : Cx) (es : List Expr) (f : FA) : Prop := RefA X (wA X es) f
theorem TrE.of {X : Cx} {e : Expr} {t : TE} {f : FE} (h : PE X e t) (r : RefE X t f) : TrE X e f := fun W E ρ G σ H Q k x tk R lx lk hf pins s I => h.run pins s σ H Q I (r W E ρ G σ H Q k x tk R lx lk hf)
theorem TrT.of {X : Cx} {e : Expr} {t : TT} {f : FT} (h : PT X e t) (r : RefT X t f) : TrT X e f := fun W E ρ G σ H Q k x tk R lx lk hf pins s I => h.run pins s σ H Q I (r W E ρ G σ H Q k x tk R lx lk hf)
theorem TrA.of {X : Cx} {e : List Expr} {t : TA} {f : FA} (h : PA X e t) (r : RefA X t f) : TrA X e f := fun W E ρ G σ H Q k x tk R lx lk hf pos pins s I => h.run pos pins s σ H Q I (r W E ρ G σ H Q k x tk R lx lk hf)
def vw (ρ : S) (a : AV) (k : D → Prop) : Prop :=
  match a with
  | .dat d => k d
  | .own _ d => k d
  | .at i => match ρ[i]? with
    | some (some (.own _ d)) => k d
    | _ => False
  | _ => False
/-- v is seen as d; its parts stand in G -/
inductive Vw (K : PySem.W.Frag) (G H : Hp) : V → D → Prop
  | rp {v : V} {d : D} : Rp K G v d → Vw K G H v d
  | own {p : Addr} {d : D} : Own K G H p d → Vw K G H (.ref p) d
section
variable {K : PySem.W.Frag} {E : Ent} {ρ ρ' : S} {G G' H H' : Hp} {σ : L2.St} {p : Addr} {o : HO} {a : AV} {v : V} {i : Nat} {d : D}
theorem vw_at {i : Nat} {k : D → Prop} (h : vw ρ (.at i) k) : ∃ b d, ρ[i]? = some (some (.own b d)) ∧ k d := by
  unfold vw at h
  dsimp only at h
  split at h
  · rename_i b d e
    exact ⟨b, d, e, h⟩
  · exact h.elim
theorem Res.vw {k : D → Prop} (r : Rel K E ρ G σ H) (q : Res K E ρ G σ H a v) (h : vw ρ a k) : ∃ d, Vw K G H v d ∧ k d := by
  rcases q with ⟨i, rfl, e⟩ | ⟨no, hh⟩ | ⟨yo, np, p, rfl, gp, st, h0, ls⟩
  · obtain ⟨b, d, e1, hk⟩ := vw_at h
    obtain ⟨u, e2, hh⟩ := r.slot i _ e1
    rw [e] at e2
    cases e2
    obtain ⟨p, rfl, _, st⟩ := hh
    exact ⟨d, .own st, hk⟩
  · cases a with
    | dat d => exact ⟨d, .rp hh, h⟩
    | «at» i => exact hh.elim
    | own b d => cases no
    | pot b => cases no
    | obj C fs => exact h.elim
    | raw u => exact h.elim
    | scr ns => exact h.elim
    | exn a C dd fs => exact h.elim
    | clo f Gc => exact h.elim
  · cases a with
    | own b d => exact ⟨d, .own st, h⟩
    | pot b => exact h.elim
    | _ => cases yo
theorem Vw.mono (e : Ex G G') (h : Vw K G H v d) (st : ∀ p, v = .ref p → H p ≠ none → H' p = H p) : Vw K G' H' v d := by
  cases h with
  | rp h => exact .rp (h.mono e)
  | own h => exact .own (h.mono e (st _ rfl h.some))
theorem Vw.ints {i : Int} (h : Vw K G H v (.int i)) : v = .int i := by
  cases h with
  | rp h => cases h; rfl
  | own h => exact h.elim
theorem Vw.strs {i : Str} (h : Vw K G H v (.str i)) : v = .str i := by
  cases h with
  | rp h => cases h; rfl
  | own h => exact h.elim
theorem Vw.bls {i : Bool} (h : Vw K G H v (.bool i)) : v = .bl i := by
  cases h with
  | rp h => cases h; rfl
  | own h => exact h.elim
theorem Vw.nons (h : Vw K G H v .none) : v = .non := by
  cases h with
  | rp h => cases h; rfl
  | own h => exact h.elim
theorem Vw.lsts {ds : List D} (s : Ex G H) (h : Vw K G H v (.list ds)) : ∃ p xs, v = .ref p ∧ H p = some (.lst xs) ∧ Rps K G xs ds := by
  cases h with
  | rp h => cases h with | lst h1 h2 => exact ⟨_, _, rfl, s _ _ h1, h2⟩
  | own h => obtain ⟨xs, h1, h2⟩ := h; exact ⟨_, _, rfl, h1, h2⟩
theorem Vw.tups {ds : List D} (s : Ex G H) (h : Vw K G H v (.tuple ds)) : ∃ p xs, v = .ref p ∧ SqT K H p xs ∧ Rps K G xs ds := by
  cases h with
  | rp h => cases h with | tup h1 h2 => exact ⟨_, _, rfl, ex_t s h1, h2⟩
  | own h => exact h.elim
theorem Vw.dcts {ds : List (D × D)} (s : Ex G H) (h : Vw K G H v (.dict ds)) : ∃ p xs, v = .ref p ∧ H p = some (.dK xs) ∧ Rpk K G xs ds := by
  cases h with
  | rp h => cases h with | dct h1 h2 => exact ⟨_, _, rfl, s _ _ h1, h2⟩
  | own h => obtain ⟨xs, h1, h2⟩ := h; exact ⟨_, _, rfl, h1, h2⟩
/-- in the whole heap -/
theorem Vw.all (s : Ex G H) (h : Vw K G H v d) : Rp K H v d := by
  cases h with
  | rp h => exact h.mono s
  | own h =>
    cases d <;> first
      | exact h.elim
      | (obtain ⟨xs, h1, h2⟩ := h; exact .lst h1 (h2.mono s))
      | (obtain ⟨xs, h1, h2⟩ := h; exact .dct h1 (h2.mono s))
end
inductive Out where
  | val (d : D) | newl (ds : List D) | newt (ds : List D) | newd (es : List (D × D))
def Out.av : Out → AV
  | .val d => .dat d
  | .newl ds => .own false (.list ds)
  | .newt ds => .dat (.tuple ds)
  | .newd es => .own false (.dict es)
structure OutLk (K : PySem.W.Frag) (G H : Hp) (k : Out → Prop) (Q : VK) : Prop where
  val : ∀ v d, Rp K G v d → k (.val d) → Q v H
  newl : ∀ p xs ds, H p = none → Rps K G xs ds → k (.newl ds) → Q (.ref p) (upd H p (.lst xs))
  newt : ∀ p xs ds, H p = none → Rps K G xs ds → k (.newt ds) → Q (.ref p) (upd H p (.tup xs))
  newd : ∀ p xs ds, H p = none → Rpk K G xs ds → k (.newd ds) → Q (.ref p) (upd H p (.dK xs))
  same : ∀ v ds, Rp K G v (.tuple ds) → k (.newt ds) → Q v H
def Yields (K : PySem.W.Frag) (G H : Hp) (q : Hp → VK → Prop) (g : (Out → Prop) → Prop) : Prop := ∀ (Q : VK) (k : Out → Prop), OutLk K G H k Q → g k → q H Q
section
variable {K : PySem.W.Frag} {E : Ent} {ρ ρ' : S} {G G' H H' : Hp} {σ : L2.St} {p : Addr} {o : HO} {a : AV} {v : V} {i : Nat} {d : D}
theorem Res.dat (h : Rp K G v d) : Res K E ρ G σ H (.dat d) v := .inr (.inl ⟨rfl, h⟩)
theorem outLk {k : KE} {Q : VK} (r : Rel K E ρ G σ H) (lk : LkE K E G σ k Q) : OutLk K G H (fun o => k o.av ρ) Q := by
  refine ⟨fun v d h hk => lk _ ρ G v H (Ex.refl G) r (.dat h) hk, fun p xs ds n h hk => ?_, fun p xs ds n h hk => ?_, fun p xs ds n h hk => ?_, fun v ds h hk => lk _ ρ G v H (Ex.refl G) r (.dat h) hk⟩
  · exact lk (.own false (.list ds)) ρ G _ _ (Ex.refl G) (r.alloc n) (.inr (.inr ⟨rfl, rfl, p, rfl, r.g0 n, ⟨xs, upd_same, h⟩, ⟨r.h0 n, r.f0 n⟩, r.loose n⟩)) hk
  · obtain ⟨r2, e⟩ := r.made (o := .tup xs) n
    exact lk _ ρ _ _ _ e r2 (.dat (.tup (.inl (.inl upd_same)) (h.mono e))) hk
  · exact lk (.own false (.dict ds)) ρ G _ _ (Ex.refl G) (r.alloc n) (.inr (.inr ⟨rfl, rfl, p, rfl, r.g0 n, ⟨xs, upd_same, h⟩, ⟨r.h0 n, r.f0 n⟩, r.loose n⟩)) hk
/-- what is new and not yet kept by a slot is to stay -/
def fz (a : AV) (k : AV → Prop) : Prop :=
  match a with
  | .own _ d => k (.dat d)
  | .pot _ => False
  | a => k a
theorem Res.fz {k : AV → Prop} (r : Rel K E ρ G σ H) (q : Res K E ρ G σ H a v) (h : fz a k) : ∃ a' G', a'.isOwn = false ∧ Ex G G' ∧ Rel K E ρ G' σ H ∧ Res K E ρ G' σ H a' v ∧ k a' := by
  rcases q with ⟨i, rfl, e⟩ | ⟨no, hh⟩ | ⟨yo, np, p, rfl, gp, st, h0, ls⟩
  · exact ⟨_, G, rfl, Ex.refl G, r, .inl ⟨i, rfl, e⟩, h⟩
  · refine ⟨a, G, no, Ex.refl G, r, .inr (.inl ⟨no, hh⟩), ?_⟩
    cases a <;> first | exact h | cases no
  · cases a with
    | own b d =>
      have st : Own K G H p d := st
      cases d with
      | list ds =>
        obtain ⟨xs, e1, e2⟩ := st
        obtain ⟨r2, e⟩ := r.freeze e1 ls gp h0
        exact ⟨_, _, rfl, e, r2, .dat (.lst upd_same (e2.mono e)), h⟩
      | dict es =>
        obtain ⟨xs, e1, e2⟩ := st
        obtain ⟨r2, e⟩ := r.freeze e1 ls gp h0
        exact ⟨_, _, rfl, e, r2, .dat (.dct upd_same (e2.mono e)), h⟩
      | _ => exact st.elim
    | pot b => exact h.elim
    | _ => cases yo
/-- a value that is not owned stays while others are made -/
theorem Res.stay (no : a.isOwn = false) (q : Res K E ρ G σ H a v) (e : Ex G G') : Res K E ρ' G' σ H' a v := by
  rcases q with ⟨i, rfl, z⟩ | ⟨_, hh⟩ | ⟨yo, _⟩
  · exact .inl ⟨i, rfl, z⟩
  · exact .inr (.inl ⟨no, hh.still e no⟩)
  · rw [no] at yo
    cases yo
end
section
variable {X : Cx}
def fVar (i : Nat) : FE := fun ρ k _ =>
  match ρ[i]? with
  | some (some (.own _ _)) => k (.at i) ρ
  | some (some (.pot _)) => k (.at i) ρ
  | some (some (.dat d)) => k (.dat d) ρ
  | some (some (.obj C fs)) => k (.obj C fs) ρ
  | some (some (.raw v)) => k (.raw v) ρ
  | some (some (.scr ns)) => k (.scr ns) ρ
  | some (some (.exn a C dd fs)) => k (.exn a C dd fs) ρ
  | _ => False
theorem ref_var {i : Nat} : RefE X (tVar i) (fVar i) := fun W E ρ G σ H Q k x tk r lx lk h => by
  unfold fVar at h
  split at h
  · rename_i e
    obtain ⟨v, e1, hh⟩ := r.slot _ _ e
    exact ⟨v, e1, lk _ ρ G v H (Ex.refl G) r (.inl ⟨i, rfl, e1⟩) h⟩
  · rename_i e
    obtain ⟨v, e1, hh⟩ := r.slot _ _ e
    exact ⟨v, e1, lk _ ρ G v H (Ex.refl G) r (.inl ⟨i, rfl, e1⟩) h⟩
  · rename_i e
    obtain ⟨v, e1, hh⟩ := r.slot _ _ e
    exact ⟨v, e1, lk _ ρ G v H (Ex.refl G) r (.inr (.inl ⟨rfl, hh⟩)) h⟩
  · rename_i e
    obtain ⟨v, e1, hh⟩ := r.slot _ _ e
    exact ⟨v, e1, lk _ ρ G v H (Ex.refl G) r (.inr (.inl ⟨rfl, hh⟩)) h⟩
  · rename_i e
    obtain ⟨v, e1, hh⟩ := r.slot _ _ e
    exact ⟨v, e1, lk _ ρ G v H (Ex.refl G) r (.inr (.inl ⟨rfl, hh⟩)) h⟩
  · rename_i e
    obtain ⟨v, e1, hh⟩ := r.slot _ _ e
    exact ⟨v, e1, lk _ ρ G v H (Ex.refl G) r (.inr (.inl ⟨rfl, hh⟩)) h⟩
  · rename_i e
    obtain ⟨v, e1, hh⟩ := r.slot _ _ e
    exact ⟨v, e1, lk _ ρ G v H (Ex.refl G) r (.inr (.inl ⟨rfl, hh⟩)) h⟩
  · exact h.elim
/-- a slot is read whose list is to stay from now on -/
def fFrz (i : Nat) : FE := fun ρ k x =>
  match ρ[i]? with
  | some (some (.own false d)) => k (.dat d) (ρ.set i (some (.dat d)))
  | _ => fVar i ρ k x
theorem ref_frz {i : Nat} : RefE X (tVar i) (fFrz i) := fun W E ρ G σ H Q k x tk r lx lk h => by
  unfold fFrz at h
  split at h
  · rename_i d e
    obtain ⟨p, o, e1, rp, gx, r2⟩ := r.frz e
    exact ⟨_, e1, lk _ _ _ _ H gx r2 (.dat rp) h⟩
  · exact ref_var W E ρ G σ H Q k x tk r lx lk h
theorem xe_var (i : Nat) {n : Str} {pos : Pos} (h : PE X (.Name n pos) (tVar i)) : TrE X (.Name n pos) (fVar i) := .of h ref_var
theorem xe_frz (i : Nat) {n : Str} {pos : Pos} (h : PE X (.Name n pos) (tVar i)) : TrE X (.Name n pos) (fFrz i) := .of h ref_frz
def fC (a : AV) : FE := fun ρ k _ => k a ρ
theorem ref_c {v : V} {d : D} (h : ∀ G, Rp X.K G v d) : RefE X (tC v) (fC (.dat d)) := fun W E ρ G σ H Q k x tk r lx lk hk => lk _ ρ G v H (Ex.refl G) r (.dat (h G)) hk
theorem xe_int {i j pos} : TrE X (.Constant (.int i) j pos) (fC (.dat (.int i))) := .of pe_int (ref_c fun _ => .int i)
theorem xe_bl {i j pos} : TrE X (.Constant (.bool i) j pos) (fC (.dat (.bool i))) := .of pe_bl (ref_c fun _ => .bl i)
theorem xe_str {i j pos} : TrE X (.Constant (.str i) j pos) (fC (.dat (.str i))) := .of pe_str (ref_c fun _ => .str i)
theorem xe_non {j pos} : TrE X (.Constant .none j pos) (fC (.dat .none)) := .of pe_non (ref_c fun _ => .non)
theorem xe_c {e : Expr} {v : V} {d : D} (p : PE X e (tC v)) (h : ∀ G, Rp X.K G v d) : TrE X e (fC (.dat d)) := .of p (ref_c h)
end
section
variable {X : Cx} {fa fb fc : FE} {a b c : Expr} {pos : Pos}
/-- two operands, the first one kept while the second one is made -/
def f2 (g : D → D → (Out → Prop) → Prop) (fa fb : FE) : FE := fun ρ k x => fa ρ (fun a ρ1 => fz a fun a' => fb ρ1 (fun b ρ2 => vw ρ2 a' fun d => vw ρ2 b fun e => g d e fun o => k o.av ρ2) x) x
theorem ref_op {r : R2} {g : D → D → (Out → Prop) → Prop} (y : ∀ G H x y d e, Ex G H → Vw X.K G H x d → Vw X.K G H y e → Yields X.K G H (r x y) (g d e)) {ta tb : TE} (ha : RefE X ta fa) (hb : RefE X tb fb) : RefE X (tOp r ta tb) (f2 g fa fb) :=
  fun W E ρ G σ H Q k x tk R lx lk h => by
  refine ha W E ρ G σ H _ _ x tk R lx (fun a ρ1 G1 v H1 e1 R1 q1 h1 => ?_) h
  obtain ⟨a', G1', no, e1', R1', q1', h1⟩ := q1.fz R1 h1
  refine hb W E ρ1 G1' σ H1 _ _ x tk R1' lx (fun b ρ2 G2 u H2 e2 R2 q2 h2 => ?_) h1
  have q1'' := Res.stay (ρ' := ρ2) (H' := H2) no q1' e2
  obtain ⟨d, vd, h2⟩ := q1''.vw R2 h2
  obtain ⟨e, ve, h2⟩ := q2.vw R2 h2
  exact y G2 H2 v u d e R2.sub vd ve Q _ (outLk R2 fun a ρ' G' v' H' g1 => lk a ρ' G' v' H' (((e1.trans e1').trans e2).trans g1)) h2
theorem xe_op {op : Operator} {r : R2} {g : D → D → (Out → Prop) → Prop} (ho : OpR X (binaryOp op) r) (y : ∀ G H x y d e, Ex G H → Vw X.K G H x d → Vw X.K G H y e → Yields X.K G H (r x y) (g d e)) (ha : TrE X a fa) (hb : TrE X b fb) :
    TrE X (.BinOp a op b pos) (f2 g fa fb) := .of (pe_op ho pe_w pe_w) (ref_op y ha hb)
theorem xe_cmp {op : CmpOp} {r : R2} {g : D → D → (Out → Prop) → Prop} (ho : OpR X (compareOp op) r) (y : ∀ G H x y d e, Ex G H → Vw X.K G H x d → Vw X.K G H y e → Yields X.K G H (r x y) (g d e)) (hm : behindInMarks op b = false) (ha : TrE X a fa) (hb : TrE X b fb) :
    TrE X (.Compare a [op] [b] pos) (f2 g fa fb) := .of (pe_cmpR ho pe_w pe_w hm) (ref_op y ha hb)
theorem xe_ix {r : R2} {g : D → D → (Out → Prop) → Prop} (ho : IxR X r) (y : ∀ G H x y d e, Ex G H → Vw X.K G H x d → Vw X.K G H y e → Yields X.K G H (r x y) (g d e)) (hs : PlainIx b) (ha : TrE X a fa) (hb : TrE X b fb) :
    TrE X (.Subscript a b pos) (f2 g fa fb) := .of (pe_ix ho pe_w pe_w hs) (ref_op y ha hb)
def f1 (g : D → (Out → Prop) → Prop) (fa : FE) : FE := fun ρ k x => fa ρ (fun a ρ1 => vw ρ1 a fun d => g d fun o => k o.av ρ1) x
theorem ref_un {r : V → Hp → VK → Prop} {g : D → (Out → Prop) → Prop} (y : ∀ G H x d, Ex G H → Vw X.K G H x d → Yields X.K G H (r x) (g d)) {ta : TE} (ha : RefE X ta fa) : RefE X (tUn r ta) (f1 g fa) :=
  fun W E ρ G σ H Q k x tk R lx lk h => by
  refine ha W E ρ G σ H _ _ x tk R lx (fun a ρ1 G1 v H1 e1 R1 q1 h1 => ?_) h
  obtain ⟨d, vd, h1⟩ := q1.vw R1 h1
  exact y G1 H1 v d R1.sub vd Q _ (outLk R1 fun a ρ' G' v' H' g1 => lk a ρ' G' v' H' (e1.trans g1)) h1
theorem xe_un {op : UnaryOp} {r : V → Hp → VK → Prop} {g : D → (Out → Prop) → Prop} (ho : UnR X (unaryOp op) r) (y : ∀ G H x d, Ex G H → Vw X.K G H x d → Yields X.K G H (r x) (g d)) (ha : TrE X a fa) : TrE X (.UnaryOp op a pos) (f1 g fa) := .of (pe_un ho pe_w) (ref_un y ha)
end
section
variable {X : Cx} {fa : FE} {fr : FA} {e : Expr} {es : List Expr} {pos : Pos}
def fNil : FA := fun ρ k _ => k [] ρ
def fCons (fa : FE) (fr : FA) : FA := fun ρ k x => fa ρ (fun a ρ1 => fz a fun a' => fr ρ1 (fun as ρ2 => k (a' :: as) ρ2) x) x
theorem xa_nil : TrA X [] fNil := .of pa_nil fun W E ρ G σ H Q k x tk R lx lk h => lk [] ρ G [] H (Ex.refl G) R .nil h
theorem ref_cons {ta : TE} {tr : TA} (ha : RefE X ta fa) (hr : RefA X tr fr) : RefA X (tCons ta tr) (fCons fa fr) := fun W E ρ G σ H Q k x tk R lx lk h => by
  refine ha W E ρ G σ H _ _ x tk R lx (fun a ρ1 G1 v H1 e1 R1 q1 h1 => ?_) h
  obtain ⟨a', G1', no, e1', R1', q1', h1⟩ := q1.fz R1 h1
  refine hr W E ρ1 G1' σ H1 _ _ x tk R1' lx (fun as ρ2 G2 vs H2 e2 R2 q2 h2 => ?_) h1
  exact lk (a' :: as) ρ2 G2 (v :: vs) H2 ((e1.trans e1').trans e2) R2 (.cons ⟨no, q1'.stay no e2⟩ q2) h2
theorem xa_cons (ha : TrE X e fa) (hr : TrA X es fr) (hs : starEach (e :: es) X.env = (false, eval e X.env) :: starEach es X.env := by rfl) : TrA X (e :: es) (fCons fa fr) := .of (pa_cons pe_w pa_w hs) (ref_cons ha hr)
/-- all as trees -/
def vws (ρ : S) : List AV → (List D → Prop) → Prop
  | [], k => k []
  | a :: as, k => vw ρ a fun d => vws ρ as fun ds => k (d :: ds)
/-- all as trees that stay: none of them is what a slot owns -/
def dats : List AV → (List D → Prop) → Prop
  | [], k => k []
  | .dat d :: as, k => dats as fun ds => k (d :: ds)
  | _ :: _, _ => False
theorem dats_rps {K : PySem.W.Frag} {E : Ent} {ρ : S} {G H : Hp} {σ : L2.St} : ∀ {as : List AV} {vs : List V} {k : List D → Prop}, Paired (fun a v => a.isOwn = false ∧ Res K E ρ G σ H a v) as vs → dats as k → ∃ ds, Rps K G vs ds ∧ k ds
  | _, _, _, .nil, h => ⟨[], .nil, h⟩
  | a :: as, v :: vs, k, .cons q t, h => by
    cases a with
    | dat d =>
      obtain ⟨ds, r, hk⟩ := dats_rps (k := fun ds => k (d :: ds)) t h
      refine ⟨d :: ds, .cons ?_ r, hk⟩
      rcases q.2 with ⟨i, z, _⟩ | ⟨_, hh⟩ | ⟨z, _⟩
      · cases z
      · exact hh
      · cases z
    | _ => exact h.elim
theorem vws_vw {K : PySem.W.Frag} {E : Ent} {ρ : S} {G H : Hp} {σ : L2.St} (R : Rel K E ρ G σ H) : ∀ {as : List AV} {vs : List V} {k : List D → Prop}, Paired (fun a v => a.isOwn = false ∧ Res K E ρ G σ H a v) as vs → vws ρ as k → ∃ ds, Paired (Vw K G H) vs ds ∧ k ds
  | _, _, _, .nil, h => ⟨[], .nil, h⟩
  | a :: as, v :: vs, k, .cons q t, h => by
    obtain ⟨d, hd, h⟩ := q.2.vw R h
    obtain ⟨ds, r, hk⟩ := vws_vw R (k := fun ds => k (d :: ds)) t h
    exact ⟨d :: ds, .cons hd r, hk⟩
def fDisp (o : List D → Out) (fr : FA) : FE := fun ρ k x => fr ρ (fun as ρ1 => dats as fun ds => ds.length ≤ sizeLine ∧ k (o ds).av ρ1) x
theorem ref_lst {t : TA} (h : RefA X t fr) : RefE X (tLst t) (fDisp .newl fr) := fun W E ρ G σ H Q k x tk R lx lk hf => by
  refine h W E ρ G σ H _ _ x tk R lx (fun as ρ1 G1 vs H1 e1 R1 q1 h1 => ?_) hf
  obtain ⟨ds, rp, hl, hk⟩ := dats_rps q1 h1
  refine ⟨by rw [rp.len]; exact hl, fun p n => ?_⟩
  exact (outLk R1 fun a ρ' G' v' H' g1 => lk a ρ' G' v' H' (e1.trans g1)).newl p vs ds n rp hk
theorem ref_tup {t : TA} (h : RefA X t fr) : RefE X (tTup t) (fDisp .newt fr) := fun W E ρ G σ H Q k x tk R lx lk hf => by
  refine h W E ρ G σ H _ _ x tk R lx (fun as ρ1 G1 vs H1 e1 R1 q1 h1 => ?_) hf
  obtain ⟨ds, rp, hl, hk⟩ := dats_rps q1 h1
  refine ⟨by rw [rp.len]; exact hl, fun p n => ?_⟩
  exact (outLk R1 fun a ρ' G' v' H' g1 => lk a ρ' G' v' H' (e1.trans g1)).newt p vs ds n rp hk
theorem xe_lst (h : TrA X es fr) : TrE X (.List es pos) (fDisp .newl fr) := .of (pe_lst pa_w) (ref_lst h)
theorem xe_tup {x1} (h : TrA X es fr) : TrE X (.Tuple es x1 pos) (fDisp .newt fr) := .of (pe_tup pa_w) (ref_tup h)
/-- a built-in that reads -/
def fB (g : List D → (Out → Prop) → Prop) (fr : FA) : FE := fun ρ k x => fr ρ (fun as ρ1 => vws ρ1 as fun ds => g ds fun o => k o.av ρ1) x
theorem ref_cb {r : List V → Hp → VK → Prop} {g : List D → (Out → Prop) → Prop} (y : ∀ G H vs ds, Ex G H → Paired (Vw X.K G H) vs ds → Yields X.K G H (r vs) (g ds)) {t : TA} (h : RefA X t fr) : RefE X (tCB r t) (fB g fr) := fun W E ρ G σ H Q k x tk R lx lk hf => by
  refine h W E ρ G σ H _ _ x tk R lx (fun as ρ1 G1 vs H1 e1 R1 q1 h1 => ?_) hf
  obtain ⟨ds, rp, hk⟩ := vws_vw R1 q1 h1
  exact y G1 H1 vs ds R1.sub rp Q _ (outLk R1 fun a ρ' G' v' H' g1 => lk a ρ' G' v' H' (e1.trans g1)) hk
end
end Tr
set_option Elab.async false
set_option linter.all false
set_option maxRecDepth 100000
namespace Tr
open PySem PySem.Spec PyProof.Rows L2 Evl Kc
def isB (d : D) (k : Bool → Prop) : Prop :=
  match d with
  | .bool b => k b
  | _ => False
theorem isB_of {d : D} {k : Bool → Prop} (h : isB d k) : ∃ b, d = .bool b ∧ k b := by
  cases d <;> first | exact h.elim | exact ⟨_, rfl, h⟩
def TrW (X : Cx) (e : Expr) (f : FT) : Prop := ∃ t, PW X e t ∧ RefT X t f
section
variable {X : Cx} {fa fb fc : FE} {ft fu : FT} {a b c e : Expr} {rest : List Expr} {pos : Pos}
theorem TrW.t (h : TrW X e ft) : TrT X e ft := by
  obtain ⟨t, p, r⟩ := h
  exact .of p.pt r
def fTest (fa : FE) : FT := fun ρ k x => fa ρ (fun a ρ1 => vw ρ1 a fun d => isB d fun b => k b ρ1) x
theorem ref_test {t : TE} (h : RefE X t fa) : RefT X (tB t) (fTest fa) := fun W E ρ G σ H Q k x tk R lx lk hf => by
  refine h W E ρ G σ H _ _ x tk R lx (fun a ρ1 G1 v H1 e1 R1 q1 h1 => ?_) hf
  obtain ⟨d, vd, h1⟩ := q1.vw R1 h1
  obtain ⟨b, rfl, h1⟩ := isB_of h1
  exact ⟨b, vd.bls, lk b ρ1 G1 H1 e1 R1 h1⟩
theorem xt_val (h : TrE X e fa) (he : ∀ whole, isTrue e X.env whole = (do let v ← whole; standAt e.pos; holding [v] (truthy v)) := by intro _; rfl) : TrT X e (fTest fa) := .of (pt_val pe_w he) (ref_test h)
theorem xt_cmp {op : CmpOp} {r : R2} {g : D → D → (Out → Prop) → Prop} (ho : OpR X (compareOp op) r) (y : ∀ G H x y d e, Ex G H → Vw X.K G H x d → Vw X.K G H y e → Yields X.K G H (r x y) (g d e)) (hm : behindInMarks op b = false) (ha : TrE X a fa) (hb : TrE X b fb) :
    TrT X (.Compare a [op] [b] pos) (fTest (f2 g fa fb)) := .of (pt_cmpR ho pe_w pe_w hm) (ref_test (ref_op y ha hb))
def fNot (ft : FT) : FT := fun ρ k x => ft ρ (fun b ρ1 => k (!b) ρ1) x
theorem xt_not (h : TrT X a ft) : TrT X (.UnaryOp .Not a pos) (fNot ft) := .of (pt_not pt_w) fun W E ρ G σ H Q k x tk R lx lk hf =>
  h W E ρ G σ H _ _ x tk R lx (fun b ρ1 G1 H1 e1 R1 h1 => lk (!b) ρ1 G1 H1 e1 R1 h1) hf
def fAnd (ft fu : FT) : FT := fun ρ k x => ft ρ (fun b ρ1 => if b = true then fu ρ1 k x else k false ρ1) x
def fOr (ft fu : FT) : FT := fun ρ k x => ft ρ (fun b ρ1 => if b = true then k true ρ1 else fu ρ1 k x) x
theorem LkT.up {K : PySem.W.Frag} {E : Ent} {G G1 : Hp} {σ : L2.St} {k : Bool → S → Prop} {Q : Bool → Hp → Prop} (lk : LkT K E G σ k Q) (e : Ex G G1) : LkT K E G1 σ k Q := fun b ρ' G' H' e1 R h => lk b ρ' G' H' (e.trans e1) R h
theorem LkE.up {K : PySem.W.Frag} {E : Ent} {G G1 : Hp} {σ : L2.St} {k : KE} {Q : VK} (lk : LkE K E G σ k Q) (e : Ex G G1) : LkE K E G1 σ k Q := fun b ρ' G' v H' e1 R q h => lk b ρ' G' v H' (e.trans e1) R q h
theorem xw_and1 (h : TrT X a ft) : TrW X (.BoolOp .And [a] pos) ft := ⟨_, pw_and1 pt_w, h⟩
theorem xw_or1 (h : TrT X a ft) : TrW X (.BoolOp .Or [a] pos) ft := ⟨_, pw_or1 pt_w, h⟩
theorem xw_and (h : TrT X a ft) (h2 : TrW X (.BoolOp .And (b :: rest) pos) fu) : TrW X (.BoolOp .And (a :: b :: rest) pos) (fAnd ft fu) := by
  obtain ⟨u, p, r⟩ := h2
  refine ⟨_, pw_and pt_w p, fun W E ρ G σ H Q k x tk R lx lk hf => ?_⟩
  refine h W E ρ G σ H _ _ x tk R lx (fun b ρ1 G1 H1 e1 R1 h1 => ?_) hf
  cases b with
  | true => exact r W E ρ1 G1 σ H1 Q k x tk R1 lx (lk.up e1) h1
  | false => exact lk false ρ1 G1 H1 e1 R1 h1
theorem xw_or (h : TrT X a ft) (h2 : TrW X (.BoolOp .Or (b :: rest) pos) fu) : TrW X (.BoolOp .Or (a :: b :: rest) pos) (fOr ft fu) := by
  obtain ⟨u, p, r⟩ := h2
  refine ⟨_, pw_or pt_w p, fun W E ρ G σ H Q k x tk R lx lk hf => ?_⟩
  refine h W E ρ G σ H _ _ x tk R lx (fun b ρ1 G1 H1 e1 R1 h1 => ?_) hf
  cases b with
  | true => exact lk true ρ1 G1 H1 e1 R1 h1
  | false => exact r W E ρ1 G1 σ H1 Q k x tk R1 lx (lk.up e1) h1
def fIf (ft : FT) (fa fb : FE) : FE := fun ρ k x => ft ρ (fun b ρ1 => if b = true then fa ρ1 k x else fb ρ1 k x) x
theorem xe_if (h : TrT X c ft) (ha : TrE X a fa) (hb : TrE X b fb) : TrE X (.IfExp c a b pos) (fIf ft fa fb) := .of (pe_ifExp pt_w pe_w pe_w) fun W E ρ G σ H Q k x tk R lx lk hf => by
  refine h W E ρ G σ H _ _ x tk R lx (fun b ρ1 G1 H1 e1 R1 h1 => ?_) hf
  cases b with
  | true => exact ha W E ρ1 G1 σ H1 Q k x tk R1 lx (lk.up e1) h1
  | false => exact hb W E ρ1 G1 σ H1 Q k x tk R1 lx (lk.up e1) h1
def fAndV (fa fb : FE) : FE := fun ρ k x => fa ρ (fun a ρ1 => vw ρ1 a fun d => isB d fun b => if b = true then fb ρ1 k x else k (.dat (.bool false)) ρ1) x
theorem xe_one {op} (h : TrE X a fa) : TrE X (.BoolOp op [a] pos) fa := .of (pe_one pe_w) h
theorem xe_and (h : TrE X a fa) (h2 : TrE X (.BoolOp .And (b :: rest) pos) fb) : TrE X (.BoolOp .And (a :: b :: rest) pos) (fAndV fa fb) := .of (pe_and pe_w pe_w) fun W E ρ G σ H Q k x tk R lx lk hf => by
  refine h W E ρ G σ H _ _ x tk R lx (fun a ρ1 G1 v H1 e1 R1 q1 h1 => ?_) hf
  obtain ⟨d, vd, h1⟩ := q1.vw R1 h1
  obtain ⟨b, rfl, h1⟩ := isB_of h1
  refine ⟨b, vd.bls, ?_⟩
  cases b with
  | true => exact h2 W E ρ1 G1 σ H1 Q k x tk R1 lx (lk.up e1) h1
  | false => exact lk _ ρ1 G1 _ H1 e1 R1 (.dat (.bl false)) h1
def isI (d : D) (k : Int → Prop) : Prop :=
  match d with
  | .int i => k i
  | _ => False
theorem isI_of {d : D} {k : Int → Prop} (h : isI d k) : ∃ b, d = .int b ∧ k b := by
  cases d <;> first | exact h.elim | exact ⟨_, rfl, h⟩
def fCh (p p' : Int → Int → Bool) (fa fb fc : FE) : FE := fun ρ k x => fa ρ (fun a ρ1 => vw ρ1 a fun d => isI d fun i => fb ρ1 (fun b ρ2 => vw ρ2 b fun e => isI e fun j =>
  if p i j = true then fc ρ2 (fun c ρ3 => vw ρ3 c fun e => isI e fun l => k (.dat (.bool (p' j l))) ρ3) x else k (.dat (.bool false)) ρ2) x) x
theorem ref_ch {p p' : Int → Int → Bool} {ta tb tc : TE} (ha : RefE X ta fa) (hb : RefE X tb fb) (hc : RefE X tc fc) : RefE X (tChain (rI0 fun i j => .bl (p i j)) (rI0 fun i j => .bl (p' i j)) ta tb tc) (fCh p p' fa fb fc) := fun W E ρ G σ H Q k x tk R lx lk hf => by
  refine ha W E ρ G σ H _ _ x tk R lx (fun a ρ1 G1 v H1 e1 R1 q1 h1 => ?_) hf
  obtain ⟨d, vd, h1⟩ := q1.vw R1 h1
  obtain ⟨i, rfl, h1⟩ := isI_of h1
  refine hb W E ρ1 G1 σ H1 _ _ x tk R1 lx (fun b ρ2 G2 v2 H2 e2 R2 q2 h2 => ?_) h1
  obtain ⟨d2, vd2, h2⟩ := q2.vw R2 h2
  obtain ⟨j, e0, h2z⟩ := isI_of h2
  subst e0
  refine ⟨i, j, vd.ints, vd2.ints, p i j, rfl, ?_⟩
  split at h2z
  · rename_i hp
    rw [if_pos hp]
    refine hc W E ρ2 G2 σ H2 _ _ x tk R2 lx (fun b ρ3 G3 v3 H3 e3 R3 q3 h3 => ?_) h2z
    obtain ⟨d3, vd3, h3⟩ := q3.vw R3 h3
    obtain ⟨l, rfl, h3⟩ := isI_of h3
    exact ⟨j, l, vd2.ints, vd3.ints, lk _ ρ3 G3 _ H3 ((e1.trans e2).trans e3) R3 (.dat (.bl _)) h3⟩
  · rename_i hp
    rw [if_neg hp]
    exact lk _ ρ2 G2 _ H2 (e1.trans e2) R2 (.dat (.bl false)) h2z
theorem xe_ch {op op' : CmpOp} {p p' : Int → Int → Bool} (ho : OpR X (compareOp op) (rI0 fun i j => .bl (p i j))) (ho' : OpR X (compareOp op') (rI0 fun i j => .bl (p' i j))) (ha : TrE X a fa) (hb : TrE X b fb) (hc : TrE X c fc)
    (hm : lastMarks [op, op'] [b, c] = false := by with_unfolding_all rfl) : TrE X (.Compare a [op, op'] [b, c] pos) (fCh p p' fa fb fc) := .of (pe_chain ho ho' pe_w pe_w pe_w hm) (ref_ch ha hb hc)
theorem xt_ch {op op' : CmpOp} {p p' : Int → Int → Bool} (ho : OpR X (compareOp op) (rI0 fun i j => .bl (p i j))) (ho' : OpR X (compareOp op') (rI0 fun i j => .bl (p' i j))) (ha : TrE X a fa) (hb : TrE X b fb) (hc : TrE X c fc)
    (hm : lastMarks [op, op'] [b, c] = false := by with_unfolding_all rfl) : TrT X (.Compare a [op, op'] [b, c] pos) (fTest (fCh p p' fa fb fc)) := .of (pt_chain ho ho' pe_w pe_w pe_w hm) (ref_test (ref_ch ha hb hc))
end
def tyN : D → String
  | .none => "NoneType"
  | .bool _ => "bool"
  | .int _ => "int"
  | .str _ => "str"
  | .list _ => "list"
  | .tuple _ => "tuple"
  | .dict _ => "dict"
abbrev tyNs : List String := ["NoneType", "bool", "int", "str", "list", "tuple", "dict"]
theorem tyN_mem (d : D) : tyN d ∈ tyNs := by cases d <;> simp [tyN, tyNs]
def isT (T : String) (d : D) : Bool := kitB (tyN d) T == some true
section
variable {K : PySem.W.Frag} {G H : Hp} {v : V} {d : D}
theorem Vw.ty (s : Ex G H) (h : Vw K G H v d) : TyX K H v (.type (tyN d)) := by
  cases d with
  | none => rw [h.nons]; exact .base .non
  | bool b => rw [h.bls]; exact .base (.bl b)
  | int b => rw [h.ints]; exact .base (.int b)
  | str b => rw [h.strs]; exact .base (.str b)
  | list ds => obtain ⟨p, xs, rfl, e, _⟩ := h.lsts s; exact .base (.lst e)
  | tuple ds =>
    obtain ⟨p, xs, rfl, e, _⟩ := h.tups s
    rcases e with (e | ⟨o, e⟩) | ⟨o, its, n, e, c, _⟩
    · exact .base (.tup e)
    · exact .fTuple e
    · exact .kTuple e c
  | dict ds =>
    obtain ⟨p, xs, rfl, e, _⟩ := h.dcts s
    exact .base (.dK e)
theorem isT_kit {T : String} (hT : ∀ t ∈ tyNs, (kitB t T).isSome = true) (d : D) : PySem.W.kitOne K (.type (tyN d)) (.type T) = some (isT T d) := by
  refine kit_ty ?_
  have h := hT _ (tyN_mem d)
  unfold isT
  cases e : kitB (tyN d) T with
  | none => exact absurd h (by rw [e]; intro z; cases z)
  | some b => cases b <;> rfl
end
section
variable {X : Cx} {fa : FE} {a : Expr} {n : Str} {T : String} {p p1 pos : Pos}
theorem xe_isi (hg : Gl X "isinstance") (hm : X.mg "isinstance" = none) (hT : ∀ t ∈ tyNs, (kitB t T).isSome = true) (pt : PE X (.Name n p1) (tC (.ty T))) (ha : TrE X a fa) (hs : starEach [a, .Name n p1] X.env = (false, eval a X.env) :: starEach [.Name n p1] X.env := by rfl)
    (hpl : (backTo pos (starEach [.Name n p1] X.env)).any (·.1) = false := by rfl) (hs1 : starEach [.Name n p1] X.env = (false, eval (.Name n p1) X.env) :: starEach [] X.env := by rfl) :
    TrE X (.Call (.Name "isinstance" p) [a, .Name n p1] [] pos) (f1 (fun d k => k (.val (.bool (isT T d)))) fa) := .of (pe_callB call_isi hg hm (by decide +kernel) (pa_cons pe_w (pa_cons pt pa_nil hs1) hs) (by decide) (by decide) hs hpl) fun W E ρ G σ H Q k x tk R lx lk hf => by
  refine ha W E ρ G σ H _ _ x tk R lx (fun a ρ1 G1 v H1 e1 R1 q1 h1 => ?_) hf
  obtain ⟨d, vd, h1⟩ := q1.vw R1 h1
  exact ⟨v, .ty T, .type (tyN d), .type T, isT T d, rfl, .ty T, vd.ty R1.sub, isT_kit hT d, (outLk R1 (lk.up e1)).val _ _ (.bl _) h1⟩
theorem kitAny_list {K : PySem.W.Frag} {t : Value} (g : String → Bool) : ∀ {Ts : List String}, (∀ T ∈ Ts, PySem.W.kitOne K t (.type T) = some (g T)) → PySem.W.kitAny K t (Ts.map Value.type) = some (Ts.any g)
  | [], _ => rfl
  | T :: Ts, h => by
    have h1 := h T List.mem_cons_self
    have h2 := kitAny_list g (Ts := Ts) fun T hT => h T (List.mem_cons_of_mem _ hT)
    show PySem.W.kitAny K t (.type T :: Ts.map Value.type) = some (g T || Ts.any g)
    unfold PySem.W.kitAny
    rw [h1]
    cases g T with
    | true => rfl
    | false => exact h2
/-- isinstance(x, (S, T)) -/
theorem xe_isi2 {n2 : Str} {S T : String} {p2 p3 : Pos} {x1} (hg : Gl X "isinstance") (hm : X.mg "isinstance" = none) (hS : ∀ t ∈ tyNs, (kitB t S).isSome = true) (hT : ∀ t ∈ tyNs, (kitB t T).isSome = true) (ps : PE X (.Name n p1) (tC (.ty S))) (pt : PE X (.Name n2 p2) (tC (.ty T))) (ha : TrE X a fa)
    (hs : starEach [a, .Tuple [.Name n p1, .Name n2 p2] x1 p3] X.env = (false, eval a X.env) :: starEach [.Tuple [.Name n p1, .Name n2 p2] x1 p3] X.env := by rfl)
    (hpl : (backTo pos (starEach [.Tuple [.Name n p1, .Name n2 p2] x1 p3] X.env)).any (·.1) = false := by rfl) (hs1 : starEach [.Tuple [.Name n p1, .Name n2 p2] x1 p3] X.env = (false, eval (.Tuple [.Name n p1, .Name n2 p2] x1 p3) X.env) :: starEach [] X.env := by rfl)
    (hs2 : starEach [.Name n p1, .Name n2 p2] X.env = (false, eval (.Name n p1) X.env) :: starEach [.Name n2 p2] X.env := by rfl) (hs3 : starEach [.Name n2 p2] X.env = (false, eval (.Name n2 p2) X.env) :: starEach [] X.env := by rfl) :
    TrE X (.Call (.Name "isinstance" p) [a, .Tuple [.Name n p1, .Name n2 p2] x1 p3] [] pos) (f1 (fun d k => k (.val (.bool (isT S d || isT T d)))) fa) :=
  .of (pe_callB call_isiT hg hm (by decide +kernel) (pa_cons pe_w (pa_cons (pe_tup (pa_cons ps (pa_cons pt pa_nil hs3) hs2)) pa_nil hs1) hs) (by decide) (by decide) hs hpl) fun W E ρ G σ H Q k x tk R lx lk hf => by
  refine ha W E ρ G σ H _ _ x tk R lx (fun a ρ1 G1 v H1 e1 R1 q1 h1 => ?_) hf
  obtain ⟨d, vd, h1⟩ := q1.vw R1 h1
  refine ⟨by show 2 ≤ sizeLine; decide, fun tp ntp => ?_⟩
  obtain ⟨R2, e2⟩ := R1.made (o := .tup [.ty S, .ty T]) ntp
  have vd2 : Vw X.K _ (upd H1 tp (.tup [.ty S, .ty T])) v d := vd.mono e2 fun q _ nq => upd_ne fun e => nq (by rw [e]; exact ntp)
  refine ⟨v, tp, [.ty S, .ty T], .type (tyN d), [.type S, .type T], (isT S d || isT T d), rfl, upd_same, .cons (.ty S) (.cons (.ty T) .nil), vd2.ty R2.sub, ?_, ?_⟩
  · have := kitAny_list (K := X.K) (t := .type (tyN d)) (fun T => isT T d) (Ts := [S, T]) fun U hU => by
      simp only [List.mem_cons, List.mem_nil_iff, or_false] at hU
      rcases hU with rfl | rfl
      · exact isT_kit hS d
      · exact isT_kit hT d
    simpa using this
  · exact (outLk R2 ((lk.up e1).up e2)).val _ _ (.bl _) h1
end
end Tr
set_option Elab.async false
set_option linter.all false
set_option maxRecDepth 100000
namespace Tr
open PySem PySem.Spec PyProof.Rows L2 Evl Kc
section
variable {K : PySem.W.Frag} {H : Hp}
mutual
theorem Rp.dp : ∀ {v : V} {d : D}, Rp K H v d → d.canLay0 = true → Dp K H v d
  | _, _, .non, _ => .non
  | _, _, .bl b, _ => .bl b
  | _, _, .int i, _ => .int i
  | _, _, .str x, _ => .str x
  | _, _, .lst h a, c => .lst (.inl (.inl h)) (Rps.dp a (by simpa only [PyData.canLay0] using c))
  | _, _, .tup h a, c => .tup h (Rps.dp a (by simpa only [PyData.canLay0] using c))
  | _, _, .dct h a, c => by simp only [PyData.canLay0] at c; cases c
theorem Rps.dp : ∀ {v : List V} {d : List D}, Rps K H v d → PyData.canLayAll0 d = true → DpAll K H v d
  | _, _, .nil, _ => .nil
  | _, _, .cons h a, c => by
    simp only [PyData.canLayAll0, Bool.and_eq_true] at c
    exact .cons (Rp.dp h c.1) (Rps.dp a c.2)
end
end
abbrev Op2 := D → D → (Out → Prop) → Prop
def Y2 (K : PySem.W.Frag) (r : R2) (g : Op2) : Prop := ∀ G H x y d e, Ex G H → Vw K G H x d → Vw K G H y e → Yields K G H (r x y) (g d e)
def gAdd : Op2 := fun d e k =>
  match d, e with
  | .int i, .int j => k (.val (.int (i + j)))
  | .str a, .str b => a.length + b.length ≤ sizeLine ∧ k (.val (.str (a ++ b)))
  | .list a, .list b => a.length + b.length ≤ sizeLine ∧ k (.newl (a ++ b))
  | .tuple a, .tuple b => a.length + b.length ≤ sizeLine ∧ k (.newt (a ++ b))
  | _, _ => False
def gI (C : Int → Int → Prop) (g : Int → Int → D) : Op2 := fun d e k =>
  match d, e with
  | .int i, .int j => C i j ∧ k (.val (g i j))
  | _, _ => False
def gI0 (g : Int → Int → D) : Op2 := fun d e k =>
  match d, e with
  | .int i, .int j => k (.val (g i j))
  | _, _ => False
def gMul : Op2 := fun d e k =>
  match d, e with
  | .int i, .int j => (CMul i j ∨ CMulW i j) ∧ k (.val (.int (i * j)))
  | .list a, .int j => (-(2 ^ 63) ≤ j ∧ j < 2 ^ 63 ∧ a.length * j.toNat ≤ sizeLine) ∧ k (.newl (List.replicate j.toNat a).flatten)
  | _, _ => False
section
variable {K : PySem.W.Frag} {G H : Hp}
theorem gI_of {C : Int → Int → Prop} {g : Int → Int → D} {d e : D} {k : Out → Prop} (h : gI C g d e k) : ∃ i j, d = .int i ∧ e = .int j ∧ C i j ∧ k (.val (g i j)) := by
  cases d <;> cases e <;> first | exact h.elim | exact ⟨_, _, rfl, rfl, h⟩
theorem gI0_of {g : Int → Int → D} {d e : D} {k : Out → Prop} (h : gI0 g d e k) : ∃ i j, d = .int i ∧ e = .int j ∧ k (.val (g i j)) := by
  cases d <;> cases e <;> first | exact h.elim | exact ⟨_, _, rfl, rfl, h⟩
theorem y_I {C : Int → Int → Prop} {g : Int → Int → V} {g' : Int → Int → D} (hg : ∀ G i j, Rp K G (g i j) (g' i j)) : Y2 K (rI C g) (gI C g') := fun G H x y d e s hx hy Q k o h => by
  obtain ⟨i, j, rfl, rfl, c, h⟩ := gI_of h
  exact ⟨i, j, hx.ints, hy.ints, c, o.val _ _ (hg G i j) h⟩
theorem y_I0 {g : Int → Int → V} {g' : Int → Int → D} (hg : ∀ G i j, Rp K G (g i j) (g' i j)) : Y2 K (rI0 g) (gI0 g') := fun G H x y d e s hx hy Q k o h => by
  obtain ⟨i, j, rfl, rfl, h⟩ := gI0_of h
  exact ⟨i, j, hx.ints, hy.ints, o.val _ _ (hg G i j) h⟩
theorem Rps.flat {xs : List V} {ds : List D} (h : Rps K G xs ds) : ∀ n : Nat, Rps K G (List.replicate n xs).flatten (List.replicate n ds).flatten
  | 0 => .nil
  | n + 1 => by
    simp only [List.replicate_succ, List.flatten_cons]
    exact h.app (Rps.flat h n)
theorem Rps.nil_of {xs : List V} {ds : List D} (h : Rps K G xs ds) : (xs = [] → ds = []) ∧ (ds = [] → xs = []) := by
  cases h with
  | nil => exact ⟨fun _ => rfl, fun _ => rfl⟩
  | cons h1 h2 => exact ⟨(fun z => nomatch z), (fun z => nomatch z)⟩
theorem y_add : Y2 K (fun x y H Q => (∃ i j, x = V.int i ∧ y = V.int j ∧ Q (.int (i + j)) H) ∨ (∃ i j, x = V.str i ∧ y = V.str j ∧ i.length + j.length ≤ sizeLine ∧ Q (.str (i ++ j)) H) ∨ rCat x y H Q ∨ rCatA K x y H Q) gAdd := fun G H x y d e s hx hy Q k o h => by
  cases d <;> cases e <;> first | exact h.elim | skip
  · exact .inl ⟨_, _, hx.ints, hy.ints, o.val _ _ (.int _) h⟩
  · exact .inr (.inl ⟨_, _, hx.strs, hy.strs, h.1, o.val _ _ (.str _) h.2⟩)
  · obtain ⟨p, xs, rfl, e1, r1⟩ := hx.lsts s
    obtain ⟨q, ys, rfl, e2, r2⟩ := hy.lsts s
    refine .inr (.inr (.inl ⟨p, q, xs, ys, rfl, rfl, e1, e2, ?_, fun l n => o.newl l _ _ n (r1.app r2) h.2⟩))
    rw [r1.len, r2.len]
    exact h.1
  · rename_i a b
    obtain ⟨p, xs, e0, e1, r1⟩ := hx.tups s
    obtain ⟨q, ys, f0, e2, r2⟩ := hy.tups s
    refine .inr (.inr (.inr ⟨p, q, xs, ys, e0, f0, e1, e2, ?_, fun z => ?_, fun _ z => ?_, fun _ _ l n => o.newt l _ _ n (r1.app r2) h.2⟩))
    · rw [r1.len, r2.len]
      exact h.1
    · have := r1.nil_of.1 z
      subst this
      rw [← f0]
      cases hy with
      | rp hy => exact o.same _ _ hy h.2
      | own hy => exact hy.elim
    · have := r2.nil_of.1 z
      subst this
      rw [← e0]
      have h2 := h.2
      rw [List.append_nil] at h2
      cases hx with
      | rp hx => exact o.same _ _ hx h2
      | own hx => exact hx.elim
theorem y_mul : Y2 K (fun x y H Q => rI CMul (fun i j => .int (i * j)) x y H Q ∨ rI CMulW (fun i j => .int (i * j)) x y H Q ∨ rRep x y H Q) gMul := fun G H x y d e s hx hy Q k o h => by
  cases d <;> cases e <;> first | exact h.elim | skip
  · rcases h with ⟨c | c, h⟩
    · exact .inl ⟨_, _, hx.ints, hy.ints, c, o.val _ _ (.int _) h⟩
    · exact .inr (.inl ⟨_, _, hx.ints, hy.ints, c, o.val _ _ (.int _) h⟩)
  · obtain ⟨p, xs, rfl, e1, r1⟩ := hx.lsts s
    obtain ⟨⟨h1, h2, h3⟩, h⟩ := h
    exact .inr (.inr ⟨p, _, xs, rfl, hy.ints, e1, h1, h2, by rw [r1.len]; exact h3, fun l n => o.newl l _ _ n (r1.flat _) h⟩)
end
section
variable {X : Cx} {fa fb : FE} {a b : Expr} {pos : Pos}
theorem xe_add (ha : TrE X a fa) (hb : TrE X b fb) : TrE X (.BinOp a .Add b pos) (f2 gAdd fa fb) := xe_op (op_add.or (op_add_str.or (op_cat.or op_catA))) y_add ha hb
theorem xe_mul (ha : TrE X a fa) (hb : TrE X b fb) : TrE X (.BinOp a .Mult b pos) (f2 gMul fa fb) := xe_op (op_mul.or (op_mulW.or op_rep)) y_mul ha hb
theorem xe_sub (ha : TrE X a fa) (hb : TrE X b fb) : TrE X (.BinOp a .Sub b pos) (f2 (gI0 fun i j => .int (i - j)) fa fb) := xe_op op_sub (y_I0 fun _ _ _ => .int _) ha hb
theorem xe_mod (ha : TrE X a fa) (hb : TrE X b fb) : TrE X (.BinOp a .Mod b pos) (f2 (gI (fun _ j => 0 < j) fun i j => .int (i % j)) fa fb) := xe_op op_mod (y_I fun _ _ _ => .int _) ha hb
abbrev gLt : Op2 := gI0 fun i j => .bool (decide (i < j))
abbrev gGt : Op2 := gI0 fun i j => .bool (decide (j < i))
theorem xt_gt (ha : TrE X a fa) (hb : TrE X b fb) : TrT X (.Compare a [.Gt] [b] pos) (fTest (f2 gGt fa fb)) := xt_cmp op_gt (y_I0 fun _ _ _ => .bl _) (nomark _) ha hb
end
abbrev eqD (d e : D) : Bool := PyData.eqv d e
def gEq : Op2 := fun d e k => (SeqAt.shaped d = true ∧ SeqAt.shaped e = true) ∧ k (.val (.bool (eqD d e)))
def gNe : Op2 := fun d e k => (SeqAt.shaped d = true ∧ SeqAt.shaped e = true) ∧ k (.val (.bool (!eqD d e)))
theorem y_eq {K : PySem.W.Frag} : Y2 K (rEqD K) gEq := fun G H x y d e s hx hy Q k o h =>
  ⟨d, e, (hx.all s).dp (SeqAt.canLay_of_shaped h.1.1), (hy.all s).dp (SeqAt.canLay_of_shaped h.1.2), h.1.1, h.1.2, o.val _ _ (.bl _) h.2⟩
theorem y_ne {K : PySem.W.Frag} : Y2 K (rNeD K) gNe := fun G H x y d e s hx hy Q k o h =>
  ⟨d, e, (hx.all s).dp (SeqAt.canLay_of_shaped h.1.1), (hy.all s).dp (SeqAt.canLay_of_shaped h.1.2), h.1.1, h.1.2, o.val _ _ (.bl _) h.2⟩
def flatD : D → Bool
  | .none => true
  | .bool _ => true
  | .int _ => true
  | .str _ => true
  | _ => false
def inD (d : D) (ds : List D) : Bool := ds.any fun z => eqD z d
def gIn (neg : Bool) : Op2 := fun d e k =>
  match e with
  | .list ds => ((flatD d && ds.all flatD) = true ∨ (SeqAt.shaped d && SeqAt.shaped (.list ds)) = true) ∧ k (.val (.bool (neg ^^ inD d ds)))
  | .tuple ds => (flatD d && ds.all flatD) = true ∧ k (.val (.bool (neg ^^ inD d ds)))
  | .str z => match d with
    | .str y => ∃ c, y = ⟨#[c]⟩ ∧ k (.val (.bool (neg ^^ decide (c ∈ z.cps.toList))))
    | _ => False
  | _ => False
section
variable {K : PySem.W.Frag} {G H : Hp}
theorem flat_v {v : V} {d : D} (h : Rp K G v d) (f : flatD d = true) : flatV v = true := by
  cases h <;> first | rfl | cases f
theorem flat_vs : ∀ {vs : List V} {ds : List D}, Rps K G vs ds → ds.all flatD = true → vs.all flatV = true
  | _, _, .nil, _ => rfl
  | _, _, .cons h a, f => by
    simp only [List.all_cons, Bool.and_eq_true] at f
    rw [List.all_cons, Bool.and_eq_true]
    exact ⟨flat_v h f.1, flat_vs a f.2⟩
theorem eq_v {v w : V} {d e : D} (h : Rp K G v d) (h' : Rp K G w e) (f : flatD d = true) (f' : flatD e = true) : eqV v w = eqD d e := by
  cases h <;> first
    | (cases f; done)
    | (cases h' <;> first | (cases f'; done) | (simp only [eqV, eqD, PyData.eqv]))
theorem in_v {w : V} {e : D} (h' : Rp K G w e) (f' : flatD e = true) : ∀ {vs : List V} {ds : List D}, Rps K G vs ds → ds.all flatD = true → inV w vs = inD e ds
  | _, _, .nil, _ => rfl
  | _, _, .cons h a, f => by
    simp only [List.all_cons, Bool.and_eq_true] at f
    have ih := in_v h' f' a f.2
    unfold inV inD at ih ⊢
    rw [List.any_cons, List.any_cons, ih, eq_v h h' f.1 f']
theorem Vw.flat {v : V} {d : D} (h : Vw K G H v d) (f : flatD d = true) : Rp K G v d := by
  cases h with
  | rp h => exact h
  | own h => cases d <;> first | exact h.elim | cases f
theorem y_in {neg : Bool} : Y2 K (fun x y H Q => rIn K neg x y H Q ∨ (∃ d ds, Dp K H x d ∧ Dp K H y (.list ds) ∧ SeqAt.shaped d = true ∧ SeqAt.shaped (.list ds) = true ∧ Q (.bl (neg ^^ ds.any fun z => PyData.eqv z d)) H) ∨
    ∃ (c : Nat) (z : Str), x = .str ⟨#[c]⟩ ∧ y = .str z ∧ Q (.bl (neg ^^ decide (c ∈ z.cps.toList))) H) (gIn neg) := fun G H x y d e s hx hy Q k o h => by
  have ng : ∀ b : Bool, (if neg = true then !b else b) = (neg ^^ b) := fun b => by cases neg <;> cases b <;> rfl
  cases e with
  | list ds =>
    obtain ⟨c | c, h⟩ := h
    · rw [Bool.and_eq_true] at c
      obtain ⟨p, xs, rfl, e1, r1⟩ := hy.lsts s
      refine .inl ⟨p, xs, rfl, .inl (.inl (.inl e1)), flat_v (hx.flat c.1) c.1, flat_vs r1 c.2, ?_⟩
      rw [ng, in_v (hx.flat c.1) c.1 r1 c.2]
      exact o.val _ _ (.bl _) h
    · rw [Bool.and_eq_true] at c
      exact .inr (.inl ⟨d, ds, (hx.all s).dp (SeqAt.canLay_of_shaped c.1), (hy.all s).dp (SeqAt.canLay_of_shaped c.2), c.1, c.2, o.val _ _ (.bl _) h⟩)
  | tuple ds =>
    obtain ⟨c, h⟩ := h
    rw [Bool.and_eq_true] at c
    obtain ⟨p, xs, rfl, e1, r1⟩ := hy.tups s
    refine .inl ⟨p, xs, rfl, .inr e1, flat_v (hx.flat c.1) c.1, flat_vs r1 c.2, ?_⟩
    rw [ng, in_v (hx.flat c.1) c.1 r1 c.2]
    exact o.val _ _ (.bl _) h
  | str z =>
    cases d with
    | str y' =>
      obtain ⟨c, rfl, h⟩ := h
      exact .inr (.inr ⟨c, z, hx.strs, hy.strs, o.val _ _ (.bl _) h⟩)
    | _ => exact h.elim
  | _ => exact h.elim
end
section
variable {X : Cx} {fa fb : FE} {a b : Expr} {pos : Pos} {n : Nat}
theorem xe_eq (hr : Room n X.A) (ha : TrE X a fa) (hb : TrE X b fb) : TrE X (.Compare a [.Eq] [b] pos) (f2 gEq fa fb) := xe_cmp (op_eqD hr.units) y_eq (nomark _) ha hb
theorem xt_eq (hr : Room n X.A) (ha : TrE X a fa) (hb : TrE X b fb) : TrT X (.Compare a [.Eq] [b] pos) (fTest (f2 gEq fa fb)) := xt_cmp (op_eqD hr.units) y_eq (nomark _) ha hb
theorem xt_ne (hr : Room n X.A) (ha : TrE X a fa) (hb : TrE X b fb) : TrT X (.Compare a [.NotEq] [b] pos) (fTest (f2 gNe fa fb)) := xt_cmp (op_neD hr.units) y_ne (nomark _) ha hb
theorem ro_in (hr : Room n X.A) : OpR X (compareOp .In) (fun x y H Q => rIn X.K false x y H Q ∨ (∃ d ds, Dp X.K H x d ∧ Dp X.K H y (.list ds) ∧ SeqAt.shaped d = true ∧ SeqAt.shaped (.list ds) = true ∧ Q (.bl (false ^^ ds.any fun z => PyData.eqv z d)) H) ∨
    ∃ (c : Nat) (z : Str), x = .str ⟨#[c]⟩ ∧ y = .str z ∧ Q (.bl (false ^^ decide (c ∈ z.cps.toList))) H) := by
  have h1 := op_inD (X := X) (by have := hr.un; omega)
  have h2 := op_in_sign (X := X)
  refine op_in_seq.or (OpR.or (fun pins s σ H x y v u Q I rx ry h => ?_) fun pins s σ H x y v u Q I rx ry h => ?_)
  · refine h1 pins s σ H x y v u Q I rx ry ?_
    obtain ⟨d, ds, a1, a2, a3, a4, q⟩ := h
    rw [Bool.false_xor] at q
    exact ⟨d, ds, a1, a2, a3, a4, q⟩
  · refine h2 pins s σ H x y v u Q I rx ry ?_
    obtain ⟨c, z, a1, a2, q⟩ := h
    rw [Bool.false_xor] at q
    exact ⟨c, z, a1, a2, q⟩
theorem ro_notIn (hr : Room n X.A) : OpR X (compareOp .NotIn) (fun x y H Q => rIn X.K true x y H Q ∨ (∃ d ds, Dp X.K H x d ∧ Dp X.K H y (.list ds) ∧ SeqAt.shaped d = true ∧ SeqAt.shaped (.list ds) = true ∧ Q (.bl (true ^^ ds.any fun z => PyData.eqv z d)) H) ∨
    ∃ (c : Nat) (z : Str), x = .str ⟨#[c]⟩ ∧ y = .str z ∧ Q (.bl (true ^^ decide (c ∈ z.cps.toList))) H) := by
  have h1 := op_notInD (X := X) (by have := hr.un; omega)
  have h2 := op_notIn_sign (X := X)
  refine op_notIn_seq.or (OpR.or (fun pins s σ H x y v u Q I rx ry h => ?_) fun pins s σ H x y v u Q I rx ry h => ?_)
  · refine h1 pins s σ H x y v u Q I rx ry ?_
    obtain ⟨d, ds, a1, a2, a3, a4, q⟩ := h
    rw [Bool.true_xor] at q
    exact ⟨d, ds, a1, a2, a3, a4, q⟩
  · refine h2 pins s σ H x y v u Q I rx ry ?_
    obtain ⟨c, z, a1, a2, q⟩ := h
    rw [Bool.true_xor] at q
    exact ⟨c, z, a1, a2, q⟩
theorem xe_in (hr : Room n X.A) (hm : behindInMarks .In b = false) (ha : TrE X a fa) (hb : TrE X b fb) : TrE X (.Compare a [.In] [b] pos) (f2 (gIn false) fa fb) := xe_cmp (ro_in hr) y_in hm ha hb
theorem xt_in (hr : Room n X.A) (hm : behindInMarks .In b = false) (ha : TrE X a fa) (hb : TrE X b fb) : TrT X (.Compare a [.In] [b] pos) (fTest (f2 (gIn false) fa fb)) := xt_cmp (ro_in hr) y_in hm ha hb
theorem xt_notIn (hr : Room n X.A) (hm : behindInMarks .NotIn b = false) (ha : TrE X a fa) (hb : TrE X b fb) : TrT X (.Compare a [.NotIn] [b] pos) (fTest (f2 (gIn true) fa fb)) := xt_cmp (ro_notIn hr) y_in hm ha hb
def isNone : D → Bool
  | .none => true
  | _ => false
def gIsN (neg : Bool) : Op2 := fun d e k =>
  match e with
  | .none => k (.val (.bool (neg ^^ isNone d)))
  | _ => False
theorem y_isN {K : PySem.W.Frag} {neg : Bool} : Y2 K (fun x y H Q => y = .non ∧ Q (.bl (neg ^^ decide (x = .non))) H) (gIsN neg) := fun G H x y d e s hx hy Q k o h => by
  cases e with
  | none =>
    refine ⟨hy.nons, ?_⟩
    have e1 : decide (x = V.non) = isNone d := by
      cases d with
      | none => rw [hx.nons]; rfl
      | bool b => rw [hx.bls]; rfl
      | int b => rw [hx.ints]; rfl
      | str b => rw [hx.strs]; rfl
      | list b => obtain ⟨p, _, rfl, _⟩ := hx.lsts s; rfl
      | tuple b => obtain ⟨p, _, rfl, _⟩ := hx.tups s; rfl
      | dict b => obtain ⟨p, _, rfl, _⟩ := hx.dcts s; rfl
    rw [e1]
    exact o.val _ _ (.bl _) h
  | _ => exact h.elim
theorem ro_is : OpR X (compareOp .Is) (fun x y H Q => y = .non ∧ Q (.bl (false ^^ decide (x = .non))) H) := fun pins s σ H x y v u Q I rx ry h => by
  refine op_isN pins s σ H x y v u Q I rx ry ?_
  obtain ⟨h1, h2⟩ := h
  rw [Bool.false_xor] at h2
  exact ⟨h1, h2⟩
theorem ro_isNot : OpR X (compareOp .IsNot) (fun x y H Q => y = .non ∧ Q (.bl (true ^^ decide (x = .non))) H) := fun pins s σ H x y v u Q I rx ry h => by
  refine op_notN pins s σ H x y v u Q I rx ry ?_
  obtain ⟨h1, h2⟩ := h
  rw [Bool.true_xor] at h2
  exact ⟨h1, h2⟩
theorem xt_is (ha : TrE X a fa) (hb : TrE X b fb) : TrT X (.Compare a [.Is] [b] pos) (fTest (f2 (gIsN false) fa fb)) := xt_cmp ro_is y_isN (nomark _) ha hb
theorem xt_isNot (ha : TrE X a fa) (hb : TrE X b fb) : TrT X (.Compare a [.IsNot] [b] pos) (fTest (f2 (gIsN true) fa fb)) := xt_cmp ro_isNot y_isN (nomark _) ha hb
end
end Tr
set_option Elab.async false
set_option linter.all false
set_option maxRecDepth 100000
namespace Tr
open PySem PySem.Spec PyProof.Rows L2 Evl Kc
abbrev OpN := List D → (Out → Prop) → Prop
def YN (K : PySem.W.Frag) (r : List V → Hp → VK → Prop) (g : OpN) : Prop := ∀ G H vs ds, Ex G H → Paired (Vw K G H) vs ds → Yields K G H (r vs) (g ds)
section
variable {X : Cx} {fr : FA} {e : Expr} {es : List Expr} {p pos : Pos} {n : Str} {id T : String}
theorem xe_callB {r : List V → Hp → VK → Prop} {g : OpN} (hc : CallR X (.builtin id) r) (y : YN X.K r g) (hg : Gl X n) (hm : X.mg n = none) (hv : bootBuiltins n = some (.builtin id)) (ha : TrA X (e :: es) fr) (hn : n ≠ "__name__" := by decide) (hdb : (n == ("__debug__" : Str)) = false := by decide)
    (he : starEach (e :: es) X.env = (false, eval e X.env) :: starEach es X.env := by rfl) (hpl : (backTo pos (starEach es X.env)).any (·.1) = false := by rfl) : TrE X (.Call (.Name n p) (e :: es) [] pos) (fB g fr) := .of (pe_callB hc hg hm hv pa_w hn hdb he hpl) (ref_cb y ha)
theorem xe_callTy {r : List V → Hp → VK → Prop} {g : OpN} (hc : CallR X (.type T) r) (y : YN X.K r g) (hg : Gl X n) (hm : X.mg n = none) (hv : bootBuiltins n = some (.type T)) (ha : TrA X (e :: es) fr) (hn : n ≠ "__name__" := by decide) (hdb : (n == ("__debug__" : Str)) = false := by decide)
    (he : starEach (e :: es) X.env = (false, eval e X.env) :: starEach es X.env := by rfl) (hpl : (backTo pos (starEach es X.env)).any (·.1) = false := by rfl) : TrE X (.Call (.Name n p) (e :: es) [] pos) (fB g fr) := .of (pe_callTy hc hg hm hv pa_w hn hdb he hpl) (ref_cb y ha)
end
def g1 (g : D → (Out → Prop) → Prop) : OpN := fun ds k =>
  match ds with
  | [d] => g d k
  | _ => False
def g2 (g : D → D → (Out → Prop) → Prop) : OpN := fun ds k =>
  match ds with
  | [d, e] => g d e k
  | _ => False
section
variable {K : PySem.W.Frag} {G H : Hp}
theorem g1_of {g : D → (Out → Prop) → Prop} {ds : List D} {k : Out → Prop} (h : g1 g ds k) : ∃ d, ds = [d] ∧ g d k := by
  match ds, h with
  | [d], h => exact ⟨d, rfl, h⟩
theorem g2_of {g : D → D → (Out → Prop) → Prop} {ds : List D} {k : Out → Prop} (h : g2 g ds k) : ∃ d e, ds = [d, e] ∧ g d e k := by
  match ds, h with
  | [d, e], h => exact ⟨d, e, rfl, h⟩
theorem pair1 {P : V → D → Prop} {vs : List V} {d : D} (h : Paired P vs [d]) : ∃ v, vs = [v] ∧ P v d := by
  cases h with
  | cons a b => cases b; exact ⟨_, rfl, a⟩
theorem pair2 {P : V → D → Prop} {vs : List V} {d e : D} (h : Paired P vs [d, e]) : ∃ v u, vs = [v, u] ∧ P v d ∧ P u e := by
  cases h with
  | cons a b =>
    obtain ⟨u, rfl, c⟩ := pair1 b
    exact ⟨_, u, rfl, a, c⟩
end
def gLen : D → (Out → Prop) → Prop := fun d k =>
  match d with
  | .str z => z.length ≤ sizeLine ∧ k (.val (.int z.length))
  | .list ds => k (.val (.int ds.length))
  | .tuple ds => k (.val (.int ds.length))
  | .dict ds => k (.val (.int ds.length))
  | _ => False
def gList : D → (Out → Prop) → Prop := fun d k =>
  match d with
  | .list ds => k (.newl ds)
  | .tuple ds => k (.newl ds)
  | .dict ds => k (.newl (ds.map (·.1)))
  | _ => False
def gTuple : D → (Out → Prop) → Prop := fun d k =>
  match d with
  | .list ds => k (.newt ds)
  | .tuple ds => k (.newt ds)
  | _ => False
def strsK : List D → (List Str → Prop) → Prop
  | [], k => k []
  | .str i :: ds, k => strsK ds fun ns => k (i :: ns)
  | _ :: _, _ => False
def boolsK : List D → (List Bool → Prop) → Prop
  | [], k => k []
  | .bool i :: ds, k => boolsK ds fun ns => k (i :: ns)
  | _ :: _, _ => False
section
variable {K : PySem.W.Frag} {G H : Hp}
theorem strs_of : ∀ {ds : List D} {k : List Str → Prop}, strsK ds k → ∃ ns, ds = ns.map PyData.str ∧ k ns
  | [], _, h => ⟨[], rfl, h⟩
  | d :: ds, k, h => by
    cases d <;> first | exact h.elim | skip
    obtain ⟨ns, rfl, hk⟩ := strs_of (k := fun ns => k (_ :: ns)) h
    exact ⟨_ :: ns, rfl, hk⟩
theorem bools_of : ∀ {ds : List D} {k : List Bool → Prop}, boolsK ds k → ∃ ns, ds = ns.map PyData.bool ∧ k ns
  | [], _, h => ⟨[], rfl, h⟩
  | d :: ds, k, h => by
    cases d <;> first | exact h.elim | skip
    obtain ⟨ns, rfl, hk⟩ := bools_of (k := fun ns => k (_ :: ns)) h
    exact ⟨_ :: ns, rfl, hk⟩
theorem Rps.ints : ∀ {xs : List V} {ns : List Int}, Rps K G xs (ns.map PyData.int) → xs = ns.map V.int
  | _, [], .nil => rfl
  | _, n :: ns, .cons (.int _) t => by rw [List.map_cons, Rps.ints t]
theorem Rps.strs : ∀ {xs : List V} {ns : List Str}, Rps K G xs (ns.map PyData.str) → xs = ns.map V.str
  | _, [], .nil => rfl
  | _, n :: ns, .cons (.str _) t => by rw [List.map_cons, Rps.strs t]
theorem Rps.bools : ∀ {xs : List V} {ns : List Bool}, Rps K G xs (ns.map PyData.bool) → xs = ns.map V.bl
  | _, [], .nil => rfl
  | _, n :: ns, .cons (.bl _) t => by rw [List.map_cons, Rps.bools t]
theorem Rpk.keys : ∀ {xs : List (Key × V)} {es : List (D × D)}, Rpk K G xs es → Rps K G (xs.map fun kv => kV kv.1) (es.map (·.1))
  | _, _, .nil => .nil
  | (k, v) :: _, _, .cons h t => .cons (match k with | .inl i => .int i | .inr x => .str x) (Rpk.keys t)
end
def gAll : D → (Out → Prop) → Prop := fun d k =>
  match d with
  | .list ds => boolsK ds fun ns => k (.val (.bool (ns.all id)))
  | _ => False
abbrev gMax2 : Op2 := gI0 fun i j => .int (if j > i then j else i)
abbrev gMin2 : Op2 := gI0 fun i j => .int (if j < i then j else i)
section
variable {X : Cx} {fr : FA} {e e2 : Expr} {p pos : Pos}
theorem CallR.or {f : Value} {r r' : List V → Hp → VK → Prop} (h : CallR X f r) (h' : CallR X f r') : CallR X f (fun xs H Q => r xs H Q ∨ r' xs H Q) := fun pins s σ H xs us Q I rx q => by
  rcases q with q | q
  · exact h pins s σ H xs us Q I rx q
  · exact h' pins s σ H xs us Q I rx q
theorem xe_len (hg : Gl X "len") (hm : X.mg "len" = none) (ha : TrA X [e] fr) (he : starEach [e] X.env = (false, eval e X.env) :: starEach [] X.env := by rfl) : TrE X (.Call (.Name "len" p) [e] [] pos) (fB (g1 gLen) fr) := by
  refine xe_callB (call_len_seq.or (call_len_str.or call_lenD)) (fun G H vs ds s pr Q k o h => ?_) hg hm PySem.boot_len ha (he := he)
  obtain ⟨d, rfl, h⟩ := g1_of h
  obtain ⟨v, rfl, hv⟩ := pair1 pr
  cases d <;> first | exact h.elim | skip
  · exact .inr (.inl ⟨_, by rw [hv.strs], h.1, o.val _ _ (.int _) h.2⟩)
  · obtain ⟨q, xs, rfl, e1, r1⟩ := hv.lsts s
    refine .inl ⟨q, xs, rfl, .inl (.inl (.inl e1)), ?_⟩
    rw [r1.len]
    exact o.val _ _ (.int _) h
  · obtain ⟨q, xs, rfl, e1, r1⟩ := hv.tups s
    refine .inl ⟨q, xs, rfl, .inr e1, ?_⟩
    rw [r1.len]
    exact o.val _ _ (.int _) h
  · obtain ⟨q, xs, rfl, e1, r1⟩ := hv.dcts s
    refine .inr (.inr ⟨q, xs, rfl, e1, ?_⟩)
    rw [r1.len]
    exact o.val _ _ (.int _) h
theorem xe_list (hg : Gl X "list") (hm : X.mg "list" = none) (hc : X.calm = true) (ha : TrA X [e] fr) (he : starEach [e] X.env = (false, eval e X.env) :: starEach [] X.env := by rfl) : TrE X (.Call (.Name "list" p) [e] [] pos) (fB (g1 gList) fr) := by
  refine xe_callTy (call_list_of.or (call_listD hc)) (fun G H vs ds s pr Q k o h => ?_) hg hm (by decide +kernel) ha (he := he)
  obtain ⟨d, rfl, h⟩ := g1_of h
  obtain ⟨v, rfl, hv⟩ := pair1 pr
  cases d <;> first | exact h.elim | skip
  · obtain ⟨q, xs, rfl, e1, r1⟩ := hv.lsts s
    exact .inl ⟨q, xs, rfl, .inl (.inl (.inl e1)), fun l n => o.newl l _ _ n r1 h⟩
  · obtain ⟨q, xs, rfl, e1, r1⟩ := hv.tups s
    exact .inl ⟨q, xs, rfl, .inr e1, fun l n => o.newl l _ _ n r1 h⟩
  · obtain ⟨q, xs, rfl, e1, r1⟩ := hv.dcts s
    exact .inr ⟨q, xs, rfl, .inl e1, fun l n => o.newl l _ _ n r1.keys h⟩
theorem xe_tuple (hg : Gl X "tuple") (hm : X.mg "tuple" = none) (ha : TrA X [e] fr) (he : starEach [e] X.env = (false, eval e X.env) :: starEach [] X.env := by rfl) : TrE X (.Call (.Name "tuple" p) [e] [] pos) (fB (g1 gTuple) fr) := by
  refine xe_callTy call_tuple_of (fun G H vs ds s pr Q k o h => ?_) hg hm (by decide +kernel) ha (he := he)
  obtain ⟨d, rfl, h⟩ := g1_of h
  obtain ⟨v, rfl, hv⟩ := pair1 pr
  cases d <;> first | exact h.elim | skip
  · obtain ⟨q, xs, rfl, e1, r1⟩ := hv.lsts s
    exact ⟨q, xs, rfl, .inl ⟨.inl (.inl e1), fun l n => o.newt l _ _ n r1 h⟩⟩
  · obtain ⟨q, xs, e0, e1, r1⟩ := hv.tups s
    refine ⟨q, xs, by rw [e0], .inr ⟨e1, ?_⟩⟩
    rw [← e0]
    cases hv with
    | rp hv => exact o.same _ _ hv h
    | own hv => exact hv.elim
theorem y_list1 {K : PySem.W.Frag} {r : List V → Hp → VK → Prop} {g : List D → (Out → Prop) → Prop} (hy : ∀ G H p xs ds, H p = some (.lst xs) → Rps K G xs ds → Yields K G H (r [.ref p]) (g ds)) :
    YN K r (g1 fun d k => match d with | .list ds => g ds k | _ => False) := fun G H vs ds s pr Q k o h => by
  obtain ⟨d, rfl, h⟩ := g1_of h
  obtain ⟨v, rfl, hv⟩ := pair1 pr
  cases d <;> first | exact h.elim | skip
  obtain ⟨q, xs, rfl, e1, r1⟩ := hv.lsts s
  exact hy G H q xs _ e1 r1 Q k o h
theorem xe_all (hg : Gl X "all") (hm : X.mg "all" = none) (hc : X.calm = true) (ha : TrA X [e] fr) (he : starEach [e] X.env = (false, eval e X.env) :: starEach [] X.env := by rfl) : TrE X (.Call (.Name "all" p) [e] [] pos) (fB (g1 gAll) fr) := by
  refine xe_callB (cr_all hc) (y_list1 (g := fun ds k => boolsK ds fun ns => k (.val (.bool (ns.all id)))) fun G H q xs ds e1 r1 Q k o h => ?_) hg hm (by decide +kernel) ha (he := he)
  obtain ⟨ns, rfl, h'⟩ := bools_of h
  exact ⟨q, ns, rfl, .inl (.inl (by rw [← r1.bools]; exact e1)), o.val _ _ (.bl _) h'⟩
theorem y_ints2 {K : PySem.W.Frag} {r : List V → Hp → VK → Prop} {g : Op2} (hg : ∀ d e k, g d e k → ∃ i j, d = .int i ∧ e = .int j) (hy : ∀ G H i j, Yields K G H (r [.int i, .int j]) (g (.int i) (.int j))) : YN K r (g2 g) := fun G H vs ds s pr Q k o h => by
  obtain ⟨d, e, rfl, h⟩ := g2_of h
  obtain ⟨v, u, rfl, hv, hu⟩ := pair2 pr
  obtain ⟨i, j, rfl, rfl⟩ := hg _ _ _ h
  rw [hv.ints, hu.ints]
  exact hy G H i j Q k o h
theorem xe_max2 (hg : Gl X "max") (hm : X.mg "max" = none) (hc : X.calm = true) (ha : TrA X [e, e2] fr) (he : starEach [e, e2] X.env = (false, eval e X.env) :: starEach [e2] X.env := by rfl) (hpl : (backTo pos (starEach [e2] X.env)).any (·.1) = false := by rfl) :
    TrE X (.Call (.Name "max" p) [e, e2] [] pos) (fB (g2 gMax2) fr) := xe_callB (call_max2 hc) (y_ints2 (fun _ _ _ h => let ⟨i, j, a, b, _⟩ := gI0_of h; ⟨i, j, a, b⟩) fun G H i j Q k o h => ⟨i, j, rfl, o.val _ _ (.int _) h⟩) hg hm (by decide +kernel) ha (by decide) (by decide) he hpl
theorem xe_min2 (hg : Gl X "min") (hm : X.mg "min" = none) (hc : X.calm = true) (ha : TrA X [e, e2] fr) (he : starEach [e, e2] X.env = (false, eval e X.env) :: starEach [e2] X.env := by rfl) (hpl : (backTo pos (starEach [e2] X.env)).any (·.1) = false := by rfl) :
    TrE X (.Call (.Name "min" p) [e, e2] [] pos) (fB (g2 gMin2) fr) := xe_callB (call_min2 hc) (y_ints2 (fun _ _ _ h => let ⟨i, j, a, b, _⟩ := gI0_of h; ⟨i, j, a, b⟩) fun G H i j Q k o h => ⟨i, j, rfl, o.val _ _ (.int _) h⟩) hg hm (by decide +kernel) ha (by decide) (by decide) he hpl
end
def gNeg : D → (Out → Prop) → Prop := fun d k =>
  match d with
  | .int i => k (.val (.int (-i)))
  | _ => False
def gIx : Op2 := fun d e k =>
  match e with
  | .int i => match d with
    | .list ds => ∃ c, atI ds i = some c ∧ k (.val c)
    | .tuple ds => ∃ c, atI ds i = some c ∧ k (.val c)
    | .str z => z.length ≤ sizeLine ∧ ∃ c, atI z.cps.toList i = some c ∧ k (.val (.str ⟨#[c]⟩))
    | _ => False
  | _ => False
def cutD (ds : List D) (lo hi : Option Int) : List D := (ds.drop (HT.sIx ds.length 0 lo)).take (HT.sIx ds.length ds.length hi - HT.sIx ds.length 0 lo)
def gSl (lo hi : Option Int) : D → (Out → Prop) → Prop := fun d k =>
  match d with
  | .list ds => k (.newl (cutD ds lo hi))
  | .tuple ds => k (.newt (cutD ds lo hi))
  | .str z => z.length ≤ sizeLine ∧ k (.val (.str (cutS z lo hi)))
  | _ => False
section
variable {K : PySem.W.Frag} {G H : Hp}
theorem Rps.atI {xs : List V} {ds : List D} {i : Int} {c : D} (h : Rps K G xs ds) (e : L2.atI ds i = some c) : ∃ v, L2.atI xs i = some v ∧ Rp K G v c := by
  unfold L2.atI at e ⊢
  rw [h.len]
  cases z : ixN ds.length i with
  | none => rw [z] at e; cases e
  | some j =>
    rw [z] at e
    obtain ⟨v, h1, h2⟩ := h.get (i := j) e
    exact ⟨v, h1, h2⟩
theorem Rps.cut {xs : List V} {ds : List D} (lo hi : Option Int) (h : Rps K G xs ds) : Rps K G (cutV xs lo hi) (cutD ds lo hi) := by
  unfold cutV cutD
  rw [h.len]
  exact (h.drop _).take _
theorem y_ix : Y2 K (rIx K) gIx := fun G H x y d e s hx hy Q k o h => by
  cases e with
  | int i =>
    rw [hy.ints]
    cases d <;> first | exact h.elim | skip
    · obtain ⟨h0, c, h1, h2⟩ := h
      exact .inr (.inr ⟨_, i, c, hx.strs, rfl, h0, h1, o.val _ _ (.str _) h2⟩)
    · obtain ⟨c, h1, h2⟩ := h
      obtain ⟨p, xs, rfl, e1, r1⟩ := hx.lsts s
      obtain ⟨v, a1, a2⟩ := r1.atI h1
      exact .inl ⟨p, xs, i, v, rfl, rfl, .inl (.inl e1), a1, o.val _ _ a2 h2⟩
    · obtain ⟨c, h1, h2⟩ := h
      obtain ⟨p, xs, rfl, e1, r1⟩ := hx.tups s
      obtain ⟨v, a1, a2⟩ := r1.atI h1
      exact .inr (.inl ⟨p, xs, i, v, rfl, rfl, e1, a1, o.val _ _ a2 h2⟩)
  | _ => exact h.elim
theorem y_sl {lo hi : Option Int} {x : V} {d : D} (s : Ex G H) (hx : Vw K G H x d) : Yields K G H (fun H Q => rSlL K x lo hi H Q ∨ rSlA K x lo hi H Q ∨ rSlS x lo hi H Q) (gSl lo hi d) := fun Q k o h => by
  cases d <;> first | exact h.elim | skip
  · exact .inr (.inr ⟨_, hx.strs, h.1, o.val _ _ (.str _) h.2⟩)
  · obtain ⟨p, xs, rfl, e1, r1⟩ := hx.lsts s
    exact .inl ⟨p, xs, rfl, .inl (.inl e1), fun l n => o.newl l _ _ n (r1.cut lo hi) h⟩
  · rename_i ds
    obtain ⟨p, xs, e0, e1, r1⟩ := hx.tups s
    refine .inr (.inl ⟨p, xs, e0, e1, fun z => ?_, fun _ l n => o.newt l _ _ n (r1.cut lo hi) h⟩)
    rw [← e0]
    have : cutD ds lo hi = ds := by
      unfold cutD
      rw [← r1.len, z.1, z.2, List.drop_zero]
      exact List.take_of_length_le (by rw [r1.len]; exact Nat.le_refl _)
    have h : k (.newt (cutD ds lo hi)) := h
    rw [this] at h
    cases hx with
    | rp hx => exact o.same _ _ hx h
    | own hx => exact hx.elim
end
section
variable {X : Cx} {fa fb fc : FE} {a b c : Expr} {pos p2 : Pos}
theorem xe_neg (ha : TrE X a fa) (ho : UnR X (unaryOp .USub) (rU fun i => .int (-i))) : TrE X (.UnaryOp .USub a pos) (f1 gNeg fa) := xe_un ho (fun G H x d s hx Q k o h => by
  cases d <;> first | exact h.elim | skip
  exact ⟨_, hx.ints, o.val _ _ (.int _) h⟩) ha
theorem xe_at (hs : PlainIx b) (ha : TrE X a fa) (hb : TrE X b fb) : TrE X (.Subscript a b pos) (f2 gIx fa fb) := xe_ix ix_seq y_ix hs ha hb
abbrev FO := S → (Option Int → S → Prop) → KX → Prop
def oNone : FO := fun ρ k _ => k none ρ
def oSome (fb : FE) : FO := fun ρ k x => fb ρ (fun b ρ1 => vw ρ1 b fun d => isI d fun i => k (some i) ρ1) x
def fSl (fa : FE) (lo hi : FO) : FE := fun ρ k x => fa ρ (fun a ρ1 => fz a fun a' => lo ρ1 (fun l ρ2 => hi ρ2 (fun u ρ3 => vw ρ3 a' fun d => gSl l u d fun o => k o.av ρ3) x) x) x
def RefO (X : Cx) (t : TO) (f : FO) : Prop := ∀ (W : WX) (E : Ent) (ρ : S) (G : Hp) (σ : L2.St) (H : Hp) (Q : Option Int → Hp → Prop) (k : Option Int → S → Prop) (x : KX), TakesT X W E → Rel X.K E ρ G σ H → LkX X.K E x W →
  (∀ o ρ' G' H', Ex G G' → Rel X.K E ρ' G' σ H' → k o ρ' → Q o H') → f ρ k x → t σ H Q
def TrO (X : Cx) (e : Option Expr) (f : FO) : Prop := ∃ t, PO X e t ∧ RefO X t f
theorem xo_none : TrO X none oNone := ⟨_, po_none, fun W E ρ G σ H Q k x tk R lx lk h => lk none ρ G H (Ex.refl G) R h⟩
theorem xo_some (hb : TrE X b fb) : TrO X (some b) (oSome fb) := ⟨_, po_some pe_w, fun W E ρ G σ H Q k x tk R lx lk h => by
  refine hb W E ρ G σ H _ _ x tk R lx (fun a ρ1 G1 v H1 e1 R1 q1 h1 => ?_) h
  obtain ⟨d, vd, h1⟩ := q1.vw R1 h1
  obtain ⟨i, rfl, h1⟩ := isI_of h1
  exact ⟨i, vd.ints, lk (some i) ρ1 G1 H1 e1 R1 h1⟩⟩
theorem xe_slice {lo hi : Option Expr} {fl fh : FO} (ha : TrE X a fa) (hl : TrO X lo fl) (hh : TrO X hi fh) : TrE X (.Subscript a (.Slice lo hi none p2) pos) (fSl fa fl fh) := by
  obtain ⟨tl, pl, rl⟩ := hl
  obtain ⟨th, ph, rh⟩ := hh
  refine .of (pe_slice (sl_list.or (sl_tupA.or sl_str)) pe_w pl ph) fun W E ρ G σ H Q k x tk R lx lk h => ?_
  refine ha W E ρ G σ H _ _ x tk R lx (fun a ρ1 G1 v H1 e1 R1 q1 h1 => ?_) h
  obtain ⟨a', G1', no, e1', R1', q1', h1⟩ := q1.fz R1 h1
  refine rl W E ρ1 G1' σ H1 _ _ x tk R1' lx (fun l ρ2 G2 H2 e2 R2 h2 => ?_) h1
  refine rh W E ρ2 G2 σ H2 _ _ x tk R2 lx (fun u ρ3 G3 H3 e3 R3 h3 => ?_) h2
  have q3 := Res.stay (ρ' := ρ3) (H' := H3) no q1' (e2.trans e3)
  obtain ⟨d, vd, h3⟩ := q3.vw R3 h3
  exact y_sl R3.sub vd Q _ (outLk R3 (lk.up ((e1.trans e1').trans (e2.trans e3)))) h3
end
end Tr
set_option Elab.async false
set_option linter.all false
set_option maxRecDepth 100000
namespace Tr
open PySem PySem.Spec PyProof.Rows L2 Evl Kc
structure EndsT where
  nx : S → Prop
  rt : AV → S → Prop
  bk : S → Prop := fun _ => False
  ct : S → Prop := fun _ => False
abbrev FS := S → EndsT → KX → Prop
structure LkS (K : PySem.W.Frag) (E : Ent) (G : Hp) (N : EndsT) (M : Ends) : Prop where
  nx : ∀ ρ' G' σ' H', Ex G G' → Rel K E ρ' G' σ' H' → N.nx ρ' → M.nx σ' H'
  rt : ∀ a ρ' G' σ' v H', Ex G G' → Rel K E ρ' G' σ' H' → Res K E ρ' G' σ' H' a v → N.rt a ρ' → M.rt v H'
  bk : ∀ ρ' G' σ' H', Ex G G' → Rel K E ρ' G' σ' H' → N.bk ρ' → M.bk σ' H'
  ct : ∀ ρ' G' σ' H', Ex G G' → Rel K E ρ' G' σ' H' → N.ct ρ' → M.ct σ' H'
theorem LkS.up {K : PySem.W.Frag} {E : Ent} {G G1 : Hp} {N : EndsT} {M : Ends} (l : LkS K E G N M) (e : Ex G G1) : LkS K E G1 N M :=
  ⟨fun ρ' G' σ' H' e1 => l.nx ρ' G' σ' H' (e.trans e1), fun a ρ' G' σ' v H' e1 => l.rt a ρ' G' σ' v H' (e.trans e1), fun ρ' G' σ' H' e1 => l.bk ρ' G' σ' H' (e.trans e1), fun ρ' G' σ' H' e1 => l.ct ρ' G' σ' H' (e.trans e1)⟩
def RefS (X : Cx) (t : TS) (f : FS) : Prop := ∀ (W : WX) (E : Ent) (ρ : S) (G : Hp) (σ : L2.St) (H : Hp) (M : Ends) (N : EndsT) (x : KX), TakesT X W E → Rel X.K E ρ G σ H → LkX X.K E x W → LkS X.K E G N M → f ρ N x → t M σ H
def wS (X : Cx) (st : Stmt) : TS := fun M σ H => ∀ (pins : List (Addr × Obj)) (s : Shared), Inv X pins σ H s → wpAny (model X.prog X.w) X.A (exec st X.env) (SP X pins M) X.xe s
def wB (X : Cx) (st : List Stmt) : TS := fun M σ H => ∀ (pins : List (Addr × Obj)) (s : Shared), Inv X pins σ H s → wpAny (model X.prog X.w) X.A (execs st X.env) (SP X pins M) X.xe s
theorem ps_w {X : Cx} {st : Stmt} : PS X st (wS X st) := ⟨fun pins s _ _ _ I h => h pins s I⟩
theorem pb_w {X : Cx} {st : List Stmt} : PSs X st (wB X st) := ⟨fun pins s _ _ _ I h => h pins s I⟩
def TrS (X : Cx) (st : Stmt) (f : FS) : Prop := RefS X (wS X st) f
def TrB (X : Cx) (st : List Stmt) (f : FS) : Prop := RefS X (wB X st) f
theorem TrS.of {X : Cx} {e : Stmt} {t : TS} {f : FS} (h : PS X e t) (r : RefS X t f) : TrS X e f := fun W E ρ G σ H M N x tk R lx lk hf pins s I => h.run pins s σ H M I (r W E ρ G σ H M N x tk R lx lk hf)
theorem TrB.of {X : Cx} {e : List Stmt} {t : TS} {f : FS} (h : PSs X e t) (r : RefS X t f) : TrB X e f := fun W E ρ G σ H M N x tk R lx lk hf pins s I => h.run pins s σ H M I (r W E ρ G σ H M N x tk R lx lk hf)
section
variable {X : Cx} {st : Stmt} {rest bd el : List Stmt} {fs fr fu : FS} {fe : FE} {ft : FT} {e : Expr} {pos : Pos}
def sNil : FS := fun ρ N _ => N.nx ρ
def sCons (fs fr : FS) : FS := fun ρ N x => fs ρ { N with nx := fun ρ' => fr ρ' N x } x
theorem tb_nil : TrB X [] sNil := .of pss_nil fun W E ρ G σ H M N x tk R lx lk h => lk.nx ρ G σ H (Ex.refl G) R h
theorem tb_one (h : TrS X st fs) : TrB X [st] fs := .of (pss_one ps_w) h
theorem tb_cons (h : TrS X st fs) (hr : TrB X rest fr) : TrB X (st :: rest) (sCons fs fr) := .of (pss_cons ps_w pb_w) fun W E ρ G σ H M N x tk R lx lk hf =>
  h W E ρ G σ H _ { N with nx := fun ρ' => fr ρ' N x } x tk R lx ⟨fun ρ' G' σ' H' e1 R1 h1 => hr W E ρ' G' σ' H' M N x tk R1 lx (lk.up e1) h1, lk.rt, lk.bk, lk.ct⟩ hf
def sExpr (fe : FE) : FS := fun ρ N x => fe ρ (fun _ ρ1 => N.nx ρ1) x
theorem ts_expr (h : TrE X e fe) (hs : swapsWith e none pos.line X.env = pure false := by rfl) : TrS X (.Expr e pos) (sExpr fe) := .of (ps_expr pe_w hs) fun W E ρ G σ H M N x tk R lx lk hf =>
  h W E ρ G σ H _ _ x tk R lx (fun a ρ1 G1 v H1 e1 R1 _ h1 => lk.nx ρ1 G1 σ H1 e1 R1 h1) hf
def sRet (fe : FE) : FS := fun ρ N x => fe ρ (fun a ρ1 => N.rt a ρ1) x
theorem ts_ret (h : TrE X e fe) : TrS X (.Return (some e) pos) (sRet fe) := .of (ps_ret pe_w) fun W E ρ G σ H M N x tk R lx lk hf =>
  h W E ρ G σ H _ _ x tk R lx (fun a ρ1 G1 v H1 e1 R1 q1 h1 => lk.rt a ρ1 G1 σ v H1 e1 R1 q1 h1) hf
def sIf (ft : FT) (fs fr : FS) : FS := fun ρ N x => ft ρ (fun b ρ1 => if b = true then fs ρ1 N x else fr ρ1 N x) x
theorem ts_if (h : TrT X e ft) (ha : TrB X bd fs) (hb : TrB X el fr) : TrS X (.If e bd el pos) (sIf ft fs fr) := .of (ps_if pt_w pb_w pb_w) fun W E ρ G σ H M N x tk R lx lk hf => by
  refine h W E ρ G σ H _ _ x tk R lx (fun b ρ1 G1 H1 e1 R1 h1 => ?_) hf
  cases b with
  | true => exact ha W E ρ1 G1 σ H1 M N x tk R1 lx (lk.up e1) h1
  | false => exact hb W E ρ1 G1 σ H1 M N x tk R1 lx (lk.up e1) h1
def putK (i : Nat) (a : AV) (ρ : S) (k : S → Prop) : Prop :=
  match ρ[i]? with
  | some (some (.own true _)) => False
  | some (some (.pot true)) => False
  | _ => match a with
    | .at _ => False
    | .own false d => k (ρ.set i (some (.own false d)))
    | .pot false => k (ρ.set i (some (.pot false)))
    | .own true _ => False
    | .pot true => False
    | .dat d => k (ρ.set i (some (.dat d)))
    | .obj C fs => k (ρ.set i (some (.obj C fs)))
    | .raw v => k (ρ.set i (some (.raw v)))
    | .scr ns => k (ρ.set i (some (.scr ns)))
    | .exn a C dd fs => k (ρ.set i (some (.exn a C dd fs)))
    | .clo f Gc => k (ρ.set i (some (.clo f Gc)))
theorem putK_of {i : Nat} {a : AV} {ρ : S} {k : S → Prop} (h : putK i a ρ k) : k (ρ.set i (some a)) ∧ a.isPar = false ∧ ∀ j, a ≠ .at j := by
  unfold putK at h
  split at h
  · exact h.elim
  · exact h.elim
  · cases a with
    | own b d => cases b <;> first | exact h.elim | exact ⟨h, rfl, nofun⟩
    | pot b => cases b <;> first | exact h.elim | exact ⟨h, rfl, nofun⟩
    | «at» j => exact h.elim
    | _ => exact ⟨h, rfl, nofun⟩
theorem Rel.putRes {K : PySem.W.Frag} {E : Ent} {ρ : S} {G H : Hp} {σ : L2.St} {a : AV} {v : V} {i : Nat} (r : Rel K E ρ G σ H) (q : Res K E ρ G σ H a v) (np : a.isPar = false) (na : ∀ j, a ≠ .at j) : Rel K E (ρ.set i (some a)) G (σ.set i (some v)) H := by
  rcases q with ⟨j, e, _⟩ | ⟨no, hh⟩ | ⟨yo, _, p, rfl, gp, st, h0, ls⟩
  · exact absurd e (na j)
  · exact r.put hh np fun z => by rw [no] at z; cases z
  · exact r.put (Hold.of_own yo gp st) np fun _ q e => by cases e; exact ⟨h0, ls⟩
def sSet (i : Nat) (fe : FE) : FS := fun ρ N x => fe ρ (fun a ρ1 => putK i a ρ1 N.nx) x
theorem ref_set {i : Nat} {te : TE} (h : RefE X te fe) : RefS X (tAsg te (gName i)) (sSet i fe) := fun W E ρ G σ H M N x tk R lx lk hf =>
  h W E ρ G σ H _ _ x tk R lx (fun a ρ1 G1 v H1 e1 R1 q1 h1 => by
    obtain ⟨h1, np, na⟩ := putK_of h1
    exact lk.nx _ G1 _ H1 e1 (R1.putRes q1 np na) h1) hf
theorem ts_set (i : Nat) {n : Str} {pos' : Pos} (h : TrE X e fe) (hN : X.N.Nodup) (hi : X.N[i]? = some n) (hx : Loc X.env.scope n) (hs : swapsWith e (some (.Name n pos')) pos.line X.env = pure false := by rfl) (hf : X.fn n = true ∨ X.env.scope.names.lookup n = some .local := by first | exact .inl rfl | exact .inr rfl | assumption) :
    TrS X (.Assign [.Name n pos'] e pos) (sSet i fe) := .of (ps_set hN hi hx pe_w hs hf) (ref_set h)
end
abbrev FG := D → S → (S → Prop) → Prop
/-- is: the slots that are set -/
def RefG (X : Cx) (t : TG) (is : List Nat) (g : FG) : Prop := ∀ (E : Ent) (ρ : S) (G : Hp) (σ : L2.St) (H : Hp) (v : V) (d : D) (Q : L2.St → Hp → Prop) (k : S → Prop), Rel X.K E ρ G σ H → Rp X.K G v d →
  (∀ ρ' σ', Rel X.K E ρ' G σ' H → σ'.length = σ.length → (∀ j, j ∉ is → σ'[j]? = σ[j]?) → (∀ j, j ∉ is → ρ'[j]? = ρ[j]?) → k ρ' → Q σ' H) → g d ρ k → t v σ H Q
def RefGs (X : Cx) (t : TGs) (is : List Nat) (g : List D → S → (S → Prop) → Prop) : Prop := ∀ (E : Ent) (ρ : S) (G : Hp) (σ : L2.St) (H : Hp) (v : List V) (d : List D) (Q : L2.St → Hp → Prop) (k : S → Prop), Rel X.K E ρ G σ H → Rps X.K G v d →
  (∀ ρ' σ', Rel X.K E ρ' G σ' H → σ'.length = σ.length → (∀ j, j ∉ is → σ'[j]? = σ[j]?) → (∀ j, j ∉ is → ρ'[j]? = ρ[j]?) → k ρ' → Q σ' H) → g d ρ k → t v σ H Q
def TrG (X : Cx) (e : Expr) (is : List Nat) (g : FG) : Prop := ∃ t, PG X e t ∧ RefG X t is g
def TrGs (X : Cx) (e : List Expr) (n : Nat) (is : List Nat) (g : List D → S → (S → Prop) → Prop) : Prop := e.length = n ∧ ∃ t, PGs X e t ∧ RefGs X t is g
def gN (i : Nat) : FG := fun d ρ k => putK i (.dat d) ρ k
def gsNil : List D → S → (S → Prop) → Prop := fun ds ρ k =>
  match ds with
  | [] => k ρ
  | _ => False
def gsCons (g : FG) (gs : List D → S → (S → Prop) → Prop) : List D → S → (S → Prop) → Prop := fun ds ρ k =>
  match ds with
  | d :: ds => g d ρ fun ρ1 => gs ds ρ1 k
  | _ => False
def gT (n : Nat) (gs : List D → S → (S → Prop) → Prop) : FG := fun d ρ k =>
  match d with
  | .tuple ds => ds.length = n ∧ gs ds ρ k
  | _ => False
section
variable {X : Cx} {e : Expr} {es : List Expr} {pos : Pos} {is js : List Nat} {g : FG} {gs : List D → S → (S → Prop) → Prop} {n : Nat}
theorem ref_gn {i : Nat} : RefG X (gName i) [i] (gN i) := fun E ρ G σ H v d Q k R rp lk h => by
  obtain ⟨h1, np, na⟩ := putK_of h
  refine lk _ _ (R.putRes (.dat rp) np na) (by rw [List.length_set]) (fun j hj => ?_) (fun j hj => ?_) h1
  · exact List.getElem?_set_ne fun z => hj (by rw [z]; exact List.mem_singleton_self _)
  · exact List.getElem?_set_ne fun z => hj (by rw [z]; exact List.mem_singleton_self _)
theorem tg_name (i : Nat) {x : Str} (hN : X.N.Nodup) (hi : X.N[i]? = some x) (hx : Loc X.env.scope x) (hf : X.fn x = true ∨ X.env.scope.names.lookup x = some .local := by first | exact .inl rfl | exact .inr rfl | assumption) : TrG X (.Name x pos) [i] (gN i) := ⟨_, pg_name hN hi hx hf, ref_gn⟩
theorem tgs_nil : TrGs X [] 0 [] gsNil := ⟨rfl, _, pgs_nil, fun E ρ G σ H v d Q k R rp lk h => by
  cases rp with
  | nil => exact ⟨rfl, lk ρ σ R rfl (fun _ _ => rfl) (fun _ _ => rfl) h⟩
  | cons _ _ => exact h.elim⟩
theorem tgs_cons (h1 : TrG X e is g) (h2 : TrGs X es n js gs) (hs : (assignEach (e :: es) X.env).map (·.2) = assign e X.env :: (assignEach es X.env).map (·.2) := by rfl) : TrGs X (e :: es) (n + 1) (is ++ js) (gsCons g gs) := by
  obtain ⟨t, p, r⟩ := h1
  obtain ⟨hl, u, q, s⟩ := h2
  refine ⟨by rw [List.length_cons, hl], _, pgs_cons p q hs, fun E ρ G σ H v d Q k R rp lk h => ?_⟩
  cases rp with
  | nil => exact h.elim
  | cons a b =>
    refine ⟨_, _, rfl, r E ρ G σ H _ _ _ _ R a (fun ρ1 σ1 R1 l1 s1 t1 h1 => ?_) h⟩
    refine s E ρ1 G σ1 H _ _ Q k R1 b (fun ρ2 σ2 R2 l2 s2 t2 h2 => ?_) h1
    refine lk ρ2 σ2 R2 (l2.trans l1) (fun j hj => ?_) (fun j hj => ?_) h2
    · rw [List.mem_append, not_or] at hj
      exact (s2 j hj.2).trans (s1 j hj.1)
    · rw [List.mem_append, not_or] at hj
      exact (t2 j hj.2).trans (t1 j hj.1)
theorem tg_tup {k : Nat} (h : TrGs X es n is gs) (hc : X.calm = true) (hn : (assignEach es X.env).length = n := by rfl) (hst : (assignEach es X.env).findIdx? (·.1) = none := by rfl) : TrG X (.Tuple es k pos) is (gT n gs) := by
  obtain ⟨hl, t, p, r⟩ := h
  refine ⟨_, pg_tup hc p hn hst, fun E ρ G σ H v d Q k R rp lk h => ?_⟩
  cases rp <;> first | exact h.elim | skip
  rename_i h1 h2
  exact ⟨_, _, rfl, ex_t R.sub h1, by rw [h2.len]; exact h.1, r E ρ G σ H _ _ Q k R h2 lk h.2⟩
/-- target = value, taken apart -/
def sAsg (fe : FE) (g : FG) : FS := fun ρ N x => fe ρ (fun a ρ1 => fz a fun a' => match a' with | .dat d => g d ρ1 N.nx | _ => False) x
theorem ts_asg {fe : FE} {tg : Expr} (h : TrE X e fe) (hg : TrG X tg is g) (hs : swapsWithSole [tg] e pos.line X.env = pure false := by rfl) (hw : swappedStores [tg] e X.env = pure none := by rfl)
    (h1 : (assignEach [tg] X.env).map (·.2) = [assign tg X.env] := by rfl) : TrS X (.Assign [tg] e pos) (sAsg fe g) := by
  obtain ⟨t, p, r⟩ := hg
  refine .of (ps_asg pe_w p hs hw h1) fun W E ρ G σ H M N x tk R lx lk hf => ?_
  refine h W E ρ G σ H _ _ x tk R lx (fun a ρ1 G1 v H1 e1 R1 q1 h1 => ?_) hf
  obtain ⟨a', G1', no, e1', R1', q1', h1⟩ := q1.fz R1 h1
  cases a' <;> first | exact h1.elim | skip
  rcases q1' with ⟨i, z, _⟩ | ⟨_, hh⟩ | ⟨z, _⟩
  · cases z
  · exact r E ρ1 G1' σ H1 v _ _ _ R1' hh (fun ρ2 σ2 R2 _ _ _ h2 => lk.nx ρ2 G1' σ2 H1 (e1.trans e1') R2 h2) h1
  · cases z
end
end Tr
set_option Elab.async false
set_option linter.all false
set_option maxRecDepth 100000
namespace Tr
open PySem PySem.Spec PyProof.Rows L2 Evl Kc Kz
structure JOk (K : PySem.W.Frag) (G : Hp) (J : It) (ds : List D) : Prop where
  go : ∀ i E ρ' G' σ' H', i < ds.length → Ex G G' → Rel K E ρ' G' σ' H' → J.go i H'
  yld : ∀ i d E ρ' G' σ' H' x H2, ds[i]? = some d → Ex G G' → Rel K E ρ' G' σ' H' → J.yld i H' x H2 → ∃ G2, Ex G' G2 ∧ Rel K E ρ' G2 σ' H2 ∧ Rp K G2 x d
  stop : ∀ E ρ' G' σ' H', Ex G G' → Rel K E ρ' G' σ' H' → J.stop ds.length H'
abbrev FI := S → (List D → S → Prop) → KX → Prop
def RefI (X : Cx) (wi : TI) (f : FI) : Prop := ∀ (W : WX) (E : Ent) (ρ : S) (G : Hp) (σ : L2.St) (H : Hp) (R : It → Hp → Prop) (k : List D → S → Prop) (x : KX), TakesT X W E → Rel X.K E ρ G σ H → LkX X.K E x W →
  (∀ ds ρ' G' J H', Ex G G' → Rel X.K E ρ' G' σ H' → JOk X.K G' J ds → k ds ρ' → R J H') → f ρ k x → wi σ H R
def TrI (X : Cx) (tg iter : Expr) (f : FI) : Prop := ∃ wi, PI X tg iter wi ∧ RefI X wi f
section
variable {K : PySem.W.Frag} {G H : Hp}
theorem JOk.of {J : It} {ds : List D} {n : Nat} {P : Hp → Prop} {Y : Nat → Hp → V → Hp → Prop} (w : Walk J n P Y) (hn : n = ds.length) (hP : ∀ E ρ' G' σ' H', Ex G G' → Rel K E ρ' G' σ' H' → P H')
    (hY : ∀ i d E ρ' G' σ' H' x H2, ds[i]? = some d → Ex G G' → Rel K E ρ' G' σ' H' → Y i H' x H2 → ∃ G2, Ex G' G2 ∧ Rel K E ρ' G2 σ' H2 ∧ Rp K G2 x d) : JOk K G J ds := by
  subst hn
  exact ⟨fun i E ρ' G' σ' H' hi e r => w.goes i H' hi (hP E ρ' G' σ' H' e r), fun i d E ρ' G' σ' H' x H2 hd e r y => hY i d E ρ' G' σ' H' x H2 hd e r (w.yields i H' x H2 (List.getElem?_eq_some_iff.mp hd).1 (hP E ρ' G' σ' H' e r) y), fun E ρ' G' σ' H' e r => w.stops H' (hP E ρ' G' σ' H' e r)⟩
theorem yAt {xs : List V} {ds : List D} (rp : Rps K G xs ds) : ∀ (i : Nat) (d : D) (E : Ent) (ρ' : S) (G' : Hp) (σ' : L2.St) (H' : Hp) (x : V) (H2 : Hp), ds[i]? = some d → Ex G G' → Rel K E ρ' G' σ' H' → YAt xs i H' x H2 → ∃ G2, Ex G' G2 ∧ Rel K E ρ' G2 σ' H2 ∧ Rp K G2 x d :=
  fun i d E ρ' G' σ' H' x H2 hd e r y => by
  obtain ⟨rfl, hx⟩ := y
  obtain ⟨v, hv, rv⟩ := rp.get hd
  rw [hx] at hv
  cases hv
  exact ⟨G', Ex.refl _, r, rv.mono e⟩
theorem yPair {xs ys : Nat → Option V} {ds : List D} (rp : ∀ i d, ds[i]? = some d → ∃ x y, xs i = some x ∧ ys i = some y ∧ ∃ c e, d = .tuple [c, e] ∧ Rp K G x c ∧ Rp K G y e) :
    ∀ (i : Nat) (d : D) (E : Ent) (ρ' : S) (G' : Hp) (σ' : L2.St) (H' : Hp) (x : V) (H2 : Hp), ds[i]? = some d → Ex G G' → Rel K E ρ' G' σ' H' → YPair xs ys i H' x H2 → ∃ G2, Ex G' G2 ∧ Rel K E ρ' G2 σ' H2 ∧ Rp K G2 x d :=
  fun i d E ρ' G' σ' H' v H2 hd e r y => by
  obtain ⟨T, x, y, rfl, hT, rfl, hx, hy⟩ := y
  obtain ⟨x', y', ex, ey, c, u, rfl, rc, ru⟩ := rp i d hd
  rw [hx] at ex
  rw [hy] at ey
  cases ex
  cases ey
  obtain ⟨r2, e2⟩ := r.made (o := .tup [x, y]) hT
  exact ⟨_, e2, r2, .tup (.inl (.inl upd_same)) (.cons (rc.mono (e.trans e2)) (.cons (ru.mono (e.trans e2)) .nil))⟩
end
def datK (a : AV) (k : D → Prop) : Prop :=
  match a with
  | .dat d => k d
  | _ => False
theorem Res.datK {K : PySem.W.Frag} {E : Ent} {ρ : S} {G H : Hp} {σ : L2.St} {a : AV} {v : V} {k : D → Prop} (q : Res K E ρ G σ H a v) (h : datK a k) : ∃ d, Rp K G v d ∧ k d := by
  cases a <;> first | exact h.elim | skip
  rcases q with ⟨i, z, _⟩ | ⟨_, hh⟩ | ⟨z, _⟩
  · cases z
  · exact ⟨_, hh, h⟩
  · cases z
def iSeq (g : D → (List D → Prop) → Prop) (fa : FE) : FI := fun ρ k x => fa ρ (fun a ρ1 => fz a fun a' => datK a' fun d => g d fun ds => k ds ρ1) x
def lK (d : D) (k : List D → Prop) : Prop :=
  match d with
  | .list ds => k ds
  | _ => False
def tK (d : D) (k : List D → Prop) : Prop :=
  match d with
  | .tuple ds => k ds
  | _ => False
def sK (d : D) (k : List D → Prop) : Prop :=
  match d with
  | .str z => k (z.cps.toList.map fun c => .str ⟨#[c]⟩)
  | _ => False
section
variable {X : Cx} {fa : FE} {fr : FA} {tg e e2 : Expr} {p pos : Pos}
theorem ti_list (h : TrE X e fa) : TrI X tg e (iSeq lK fa) := ⟨_, pi_list pe_w, fun W E ρ G σ H R k x tk Rl lx lk hf => by
  refine h W E ρ G σ H _ _ x tk Rl lx (fun a ρ1 G1 v H1 e1 R1 q1 h1 => ?_) hf
  obtain ⟨a', G2, no, e2, R2, q2, h1⟩ := q1.fz R1 h1
  obtain ⟨d, rp, h1⟩ := q2.datK h1
  cases rp <;> first | exact h1.elim | skip
  rename_i b xs ds g r
  exact ⟨b, rfl, ⟨xs, .inl (.inl (R2.sub _ _ g))⟩, lk ds ρ1 G2 _ H1 (e1.trans e2) R2 (.of walk_list r.len (fun E ρ' G' σ' H' e3 R3 => .inl (.inl (R3.sub _ _ (e3 _ _ g)))) (yAt r)) h1⟩⟩
theorem ti_tup (h : TrE X e fa) : TrI X tg e (iSeq tK fa) := ⟨_, pi_tup pe_w, fun W E ρ G σ H R k x tk Rl lx lk hf => by
  refine h W E ρ G σ H _ _ x tk Rl lx (fun a ρ1 G1 v H1 e1 R1 q1 h1 => ?_) hf
  obtain ⟨a', G2, no, e2, R2, q2, h1⟩ := q1.fz R1 h1
  obtain ⟨d, rp, h1⟩ := q2.datK h1
  cases rp <;> first | exact h1.elim | skip
  rename_i b xs ds g r
  exact ⟨b, rfl, ⟨xs, ex_t R2.sub g⟩, lk ds ρ1 G2 _ H1 (e1.trans e2) R2 (.of walk_tup r.len (fun E ρ' G' σ' H' e3 R3 => ex_t R3.sub (ex_t e3 g)) (yAt r)) h1⟩⟩
theorem ti_str (h : TrE X e fa) : TrI X tg e (iSeq sK fa) := ⟨_, pi_str pe_w, fun W E ρ G σ H R k x tk Rl lx lk hf => by
  refine h W E ρ G σ H _ _ x tk Rl lx (fun a ρ1 G1 v H1 e1 R1 q1 h1 => ?_) hf
  obtain ⟨a', G2, no, e2, R2, q2, h1⟩ := q1.fz R1 h1
  obtain ⟨d, rp, h1⟩ := q2.datK h1
  cases rp <;> first | exact h1.elim | skip
  rename_i z
  refine ⟨z, rfl, lk _ ρ1 G2 _ H1 (e1.trans e2) R2 (.of walk_str (by rw [List.length_map, Array.length_toList]) (fun _ _ _ _ _ _ _ => trivial) fun i d E ρ' G' σ' H' x H2 hd e3 R3 y => ?_) h1⟩
  obtain ⟨rfl, c, hc, rfl⟩ := y
  rw [List.getElem?_map, Array.getElem?_toList, hc] at hd
  cases hd
  exact ⟨G', Ex.refl _, R3, .str _⟩⟩
def rngD (lo : Int) (n : Nat) : List D := (List.range n).map fun i => .int (lo + (i : Nat))
theorem rngD_ok {K : PySem.W.Frag} {G : Hp} {lo : Int} {n : Nat} : JOk K G (Itr lo n) (rngD lo n) := .of walk_range (by unfold rngD; rw [List.length_map, List.length_range]) (fun _ _ _ _ _ _ _ => trivial) fun i d E ρ' G' σ' H' x H2 hd e R y => by
  obtain ⟨rfl, rfl⟩ := y
  unfold rngD at hd
  rw [List.getElem?_map] at hd
  obtain ⟨j, hj, rfl⟩ := Option.map_eq_some_iff.mp hd
  obtain ⟨hl, hj⟩ := List.getElem?_eq_some_iff.mp hj
  rw [List.getElem_range] at hj
  subst hj
  exact ⟨G', Ex.refl _, R, .int _⟩
def iR1 (fr : FA) : FI := fun ρ k x => fr ρ (fun as ρ1 => vws ρ1 as fun ds => match ds with | [.int j] => (-(2 ^ 62) ≤ j ∧ j < 2 ^ 62) ∧ k (rngD 0 j.toNat) ρ1 | _ => False) x
theorem ti_range1 (hg : Gl X "range") (hm : X.mg "range" = none) (h : TrA X [e] fr) (hs : starEach [e] X.env = [(false, eval e X.env)] := by rfl) : TrI X tg (.Call (.Name "range" p) [e] [] pos) (iR1 fr) := ⟨_, pi_range1 hg hm pa_w hs, fun W E ρ G σ H R k x tk Rl lx lk hf => by
  refine h W E ρ G σ H _ _ x tk Rl lx (fun as ρ1 G1 vs H1 e1 R1 q1 h1 => ?_) hf
  obtain ⟨ds, pr, h1⟩ := vws_vw R1 q1 h1
  split at h1
  · rename_i j
    obtain ⟨v, rfl, hv⟩ := pair1 pr
    exact ⟨j, by rw [hv.ints], h1.1.1, h1.1.2, lk _ ρ1 G1 _ H1 e1 R1 rngD_ok h1.2⟩
  · exact h1.elim⟩
def enumD : Nat → List D → List D
  | _, [] => []
  | i, d :: ds => .tuple [.int (i : Nat), d] :: enumD (i + 1) ds
theorem enumD_get : ∀ (ds : List D) (n i : Nat), (enumD n ds)[i]? = (ds[i]?).map fun d => .tuple [.int ((n + i : Nat) : Int), d]
  | [], _, _ => rfl
  | d :: ds, n, 0 => rfl
  | d :: ds, n, i + 1 => by
    show (enumD (n + 1) ds)[i]? = _
    rw [enumD_get ds (n + 1) i, show n + 1 + i = n + (i + 1) by omega]
    rfl
theorem enumD_len : ∀ (ds : List D) (n : Nat), (enumD n ds).length = ds.length
  | [], _ => rfl
  | d :: ds, n => congrArg (· + 1) (enumD_len ds (n + 1))
def zipD (ds es : List D) : List D := (ds.zip es).map fun p => .tuple [p.1, p.2]
def iEn (fr : FA) : FI := fun ρ k x => fr ρ (fun as ρ1 => dats as fun ds => match ds with | [.list xs] => k (enumD 0 xs) ρ1 | _ => False) x
theorem ti_enum {elts : List Expr} {kk : Nat} {tpos : Pos} (hg : Gl X "enumerate") (hm : X.mg "enumerate" = none) (h : TrA X [e] fr) (hs : starEach [e] X.env = [(false, eval e X.env)] := by rfl) : TrI X (.Tuple elts kk tpos) (.Call (.Name "enumerate" p) [e] [] pos) (iEn fr) := ⟨_, pi_enum hg hm pa_w hs, fun W E ρ G σ H R k x tk Rl lx lk hf => by
  refine h W E ρ G σ H _ _ x tk Rl lx (fun as ρ1 G1 vs H1 e1 R1 q1 h1 => ?_) hf
  obtain ⟨ds, rp, h1⟩ := dats_rps q1 h1
  split at h1
  · rename_i xs
    cases rp with
    | cons r t =>
      cases t
      cases r with
      | lst g r =>
        refine ⟨_, _, rfl, .inl (.inl (R1.sub _ _ g)), lk _ ρ1 G1 _ H1 e1 R1 (.of walk_enum (by rw [enumD_len, r.len]) (fun E ρ' G' σ' H' e3 R3 => .inl (.inl (R3.sub _ _ (e3 _ _ g)))) (yPair fun i d hd => ?_)) h1⟩
        rw [enumD_get] at hd
        obtain ⟨c, hc, rfl⟩ := Option.map_eq_some_iff.mp hd
        obtain ⟨v, hv, rv⟩ := r.get hc
        rw [Nat.zero_add]
        exact ⟨_, v, rfl, hv, _, c, rfl, .int _, rv⟩
  · exact h1.elim⟩
end
def forF (g : FG) (fb : FS) : List D → FS
  | [], ρ, N, _ => N.nx ρ
  | d :: ds, ρ, N, x => g d ρ fun ρ1 => fb ρ1 { N with nx := fun ρ2 => forF g fb ds ρ2 N x, ct := fun ρ2 => forF g fb ds ρ2 N x, bk := N.nx } x
def sFor (fi : FI) (g : FG) (fb : FS) : FS := fun ρ N x => fi ρ (fun ds ρ1 => forF g fb ds ρ1 N x) x
section
variable {X : Cx} {fi : FI} {g : FG} {fb : FS} {tg iter : Expr} {body : List Stmt} {pos : Pos} {is : List Nat}
theorem ts_for (hi : TrI X tg iter fi) (hg : TrG X tg is g) (hb : TrB X body fb) (hp : PassesOwn (model X.prog X.w) X.A X.env X.xe) (hc : X.calm = true) (hs : ∀ x, foldedSetIterable iter X.env x = pure x := by intro _; rfl) : TrS X (.For tg iter body [] pos) (sFor fi g fb) := by
  obtain ⟨wi, pi, ri⟩ := hi
  obtain ⟨t, pg, rg⟩ := hg
  refine .of (ps_for hp hc pi pg pb_w hs) fun W E ρ G σ H M N x tk R lx lk hf => ?_
  refine ri W E ρ G σ H _ _ x tk R lx (fun ds ρ1 G1 J H1 e1 R1 jo h1 => ?_) hf
  refine ⟨fun i m σ' H' => m = ds.length - i ∧ i ≤ ds.length ∧ ∃ ρ' G', Ex G1 G' ∧ Rel X.K E ρ' G' σ' H' ∧ forF g fb (ds.drop i) ρ' N x, ⟨ds.length, by simp, Nat.zero_le _, ρ1, G1, Ex.refl _, R1, h1⟩, ?_⟩
  rintro i m σ' H' ⟨rfl, hi, ρ', G', e2, R2, h2⟩
  by_cases hlt : i < ds.length
  · rw [List.drop_eq_getElem_cons hlt] at h2
    refine .inr ⟨jo.go i E ρ' G' σ' H' hlt e2 R2, fun σ2 H2 => ∃ ρ2 G2, Ex G1 G2 ∧ Rel X.K E ρ2 G2 σ2 H2 ∧ forF g fb (ds.drop (i + 1)) ρ2 N x, fun σ2 H2 hN => ⟨ds.length - (i + 1), by omega, rfl, hlt, hN⟩, fun v H3 y => ?_⟩
    obtain ⟨G3, e3, R3, rp⟩ := jo.yld i ds[i] E ρ' G' σ' H' v H3 (List.getElem?_eq_getElem hlt) e2 R2 y
    refine rg E ρ' G3 σ' H3 v _ _ _ R3 rp (fun ρ4 σ4 R4 _ _ _ h4 => ?_) h2
    refine hb W E ρ4 G3 σ4 H3 _ { N with nx := fun ρ2 => forF g fb (ds.drop (i + 1)) ρ2 N x, ct := fun ρ2 => forF g fb (ds.drop (i + 1)) ρ2 N x, bk := N.nx } x tk R4 lx ⟨fun ρ5 G5 σ5 H5 e5 R5 h5 => ⟨ρ5, G5, (e2.trans e3).trans e5, R5, h5⟩, fun a ρ5 G5 σ5 v5 H5 e5 => lk.rt a ρ5 G5 σ5 v5 H5 (((e1.trans e2).trans e3).trans e5), fun ρ5 G5 σ5 H5 e5 => lk.nx ρ5 G5 σ5 H5 (((e1.trans e2).trans e3).trans e5), fun ρ5 G5 σ5 H5 e5 R5 h5 => ⟨ρ5, G5, (e2.trans e3).trans e5, R5, h5⟩⟩ h4
  · have e : i = ds.length := by omega
    subst e
    rw [List.drop_length] at h2
    exact .inl ⟨jo.stop E ρ' G' σ' H' e2 R2, lk.nx ρ' G' σ' H' (e1.trans e2) R2 h2⟩
end
end Tr
set_option Elab.async false
set_option linter.all false
set_option maxRecDepth 100000
namespace Tr
open PySem PySem.Spec PyProof.Rows L2 Evl Kc Kz
def wipeA (ρ : S) : List Nat → S
  | [] => ρ
  | v :: vs => (wipeA ρ vs).set v none
def backA (ρ : S) : List Nat → S → S
  | [], ρ' => ρ'
  | v :: vs, ρ' => (backA ρ vs ρ').set v ((ρ[v]?).getD none)
def okv (vs : List Nat) (ρ : S) : Bool := vs.all fun j => match ρ[j]? with | some (some a) => !a.isOwn | _ => true
section
variable {K : PySem.W.Frag} {E : Ent} {ρ ρ' : S} {G G' H H' : Hp} {σ σ' : L2.St} {p : Addr}
theorem Rel.wipe (r : Rel K E ρ G σ H) : ∀ vs : List Nat, Rel K E (wipeA ρ vs) G (wipe σ vs) H
  | [] => r
  | v :: vs => (Rel.wipe r vs).forget
theorem back_get {j : Nat} {a : AV} : ∀ {vs : List Nat}, (backA ρ vs ρ')[j]? = some (some a) → (j ∈ vs ∧ ρ[j]? = some (some a)) ∨ (j ∉ vs ∧ ρ'[j]? = some (some a))
  | [], h => .inr ⟨by simp, h⟩
  | v :: vs, h => by
    have h : ((backA ρ vs ρ').set v ((ρ[v]?).getD none))[j]? = some (some a) := h
    rw [List.getElem?_set] at h
    split at h
    · rename_i e
      split at h
      · refine .inl ⟨by rw [e]; exact List.mem_cons_self, ?_⟩
        rw [← e]
        cases q : ρ[v]? with
        | none => rw [q] at h; cases h
        | some b => rw [q] at h; exact h
      · cases h
    · rename_i n
      rcases back_get h with ⟨h1, h2⟩ | ⟨h1, h2⟩
      · exact .inl ⟨List.mem_cons_of_mem _ h1, h2⟩
      · refine .inr ⟨fun z => ?_, h2⟩
        obtain z | z := List.mem_cons.mp z
        · exact n z.symm
        · exact h1 z
theorem back_len : ∀ vs : List Nat, (backA ρ vs ρ').length = ρ'.length
  | [] => rfl
  | v :: vs => by
    show ((backA ρ vs ρ').set v _).length = _
    rw [List.length_set, back_len vs]
def Nown (vs : List Nat) (ρ : S) : Prop := ∀ (j : Nat) (a : AV), j ∈ vs → ρ[j]? = some (some a) → a.isOwn = false
theorem okv_of {vs : List Nat} (h : okv vs ρ = true) : Nown vs ρ := fun j a hj e => by
  have := List.all_eq_true.mp h j hj
  rw [e] at this
  simpa using this
theorem Nown.back {vs : List Nat} (h : Nown vs ρ) : Nown vs (backA ρ vs ρ') := fun j a hj e => by
  rcases back_get e with ⟨_, h2⟩ | ⟨h1, _⟩
  · exact h j a hj h2
  · exact absurd hj h1
theorem Rel.unblk {vs : List Nat} {G0 H0 : Hp} (r0 : Rel K E ρ G0 σ H0) (r : Rel K E ρ' G σ' H) (e : Ex G0 G) (no : Nown vs ρ) (hl : σ'.length = σ.length) (ag : ∀ j, j ∉ vs → σ'[j]? = σ[j]?) : Rel K E (backA ρ vs ρ') G σ H := by
  have own : ∀ {j : Nat} {a : AV}, (backA ρ vs ρ')[j]? = some (some a) → a.isOwn = true → ρ'[j]? = some (some a) ∧ σ'[j]? = σ[j]? := fun {j a} h o => by
    rcases back_get h with ⟨h1, h2⟩ | ⟨h1, h2⟩
    · rw [no j a h1 h2] at o
      cases o
    · exact ⟨h2, ag j h1⟩
  refine ⟨r.sub, by rw [back_len, r.len, hl], fun j a h => ?_, fun i j a b v n h1 h2 o1 o2 e1 e2 => ?_, fun j a q h o z => ?_, fun j a h o => ?_, r.grow, r.new, r.but, r.live, r.h0p, fun b u h => ?_, r.fno, r.gno⟩
  · rcases back_get h with ⟨h1, h2⟩ | ⟨h1, h2⟩
    · obtain ⟨v, ev, hh⟩ := r0.slot j a h2
      exact ⟨v, ev, hh.still e (no j a h1 h2)⟩
    · obtain ⟨v, ev, hh⟩ := r.slot j a h2
      exact ⟨v, by rw [← ag j h1]; exact ev, hh⟩
  · obtain ⟨a1, s1⟩ := own h1 o1
    obtain ⟨a2, s2⟩ := own h2 o2
    exact r.apart i j a b v n a1 a2 o1 o2 (s1.trans e1) (s2.trans e2)
  · obtain ⟨a1, s1⟩ := own h o
    exact r.mine j a q a1 o (s1.trans z)
  · obtain ⟨a1, s1⟩ := own h (AV.par_own o)
    rw [← s1]
    exact r.par j a a1 o
  · obtain ⟨h1, h2, h3⟩ := r.frm b u h
    refine ⟨h1, h2, fun j a hj o z => ?_⟩
    obtain ⟨a1, s1⟩ := own hj o
    exact h3 j a a1 o (s1.trans z)
theorem loose_back {vs : List Nat} (l : Loose ρ' σ' p) (no : Nown vs ρ) (ag : ∀ j, j ∉ vs → σ'[j]? = σ[j]?) : Loose (backA ρ vs ρ') σ p := fun j a h o z => by
  rcases back_get h with ⟨h1, h2⟩ | ⟨h1, h2⟩
  · rw [no j a h1 h2] at o
    cases o
  · exact l j a h2 o ((ag j h1).trans z)
theorem wipe_in {σ : L2.St} {i : Nat} : ∀ {vs : List Nat}, i ∈ vs → (L2.wipe σ vs)[i]? = if i < σ.length then some none else none
  | v :: vs, h => by
    show ((L2.wipe σ vs).set v none)[i]? = _
    rw [List.getElem?_set]
    by_cases e : v = i
    · rw [if_pos e, wipe_length, e]
    · rw [if_neg e]
      exact wipe_in (List.mem_of_ne_of_mem (fun z => e z.symm) h)
theorem wipe_same {vs : List Nat} (hl : σ'.length = σ.length) (ag : ∀ j, j ∉ vs → σ'[j]? = σ[j]?) : L2.wipe σ' vs = L2.wipe σ vs := by
  apply List.ext_getElem?; intro j
  by_cases h : j ∈ vs
  · rw [wipe_in h, wipe_in h, hl]
  · rw [wipe_out h, wipe_out h, ag j h]
end
def noX : KX := fun _ _ => False
def lcF (vs : List Nat) (g : FG) (ft : FT) (fe : FE) : List D → List D → S → (List D → S → Prop) → Prop
  | [], acc, ρ, k => k acc ρ
  | d :: ds, acc, ρ, k => g d (wipeA ρ vs) fun ρ2 => ft ρ2 (fun b ρ3 => if b = true then fe ρ3 (fun a ρ4 => fz a fun a' => datK a' fun r => acc.length < sizeLine ∧ lcF vs g ft fe ds (acc ++ [r]) (backA ρ vs ρ4) k) noX else lcF vs g ft fe ds acc (backA ρ vs ρ3) k) noX
def fLc (vs : List Nat) (fi : FI) (g : FG) (ft : FT) (fe : FE) : FE := fun ρ k x => fi ρ (fun ds ρ1 => okv vs ρ1 = true ∧ lcF vs g ft fe ds [] ρ1 fun acc ρ2 => k (.own false (.list acc)) ρ2) x
def fYes : FT := fun ρ k _ => k true ρ
section
variable {X : Cx} {elt tg iter : Expr} {ifs : List Expr} {scope : Scope} {own : List (Str × Nat)} {pos : Pos} {fi : FI} {g : FG} {ft : FT} {fe : FE} {is : List Nat}
theorem ref_lcΦ {Φ : Hp → Prop} {wi : TI} {tg' : TG} {tt : TT} {te : TE} (hΦ : ∀ W E, TakesT X W E → Φ E.H0) (ri : RefI X wi fi) (rg : RefG X tg' is g) (hin : ∀ i ∈ is, i ∈ own.map (·.2))
    (rt : ∀ (E : Ent) (ρ : S) (G : Hp) (σ : L2.St) (H : Hp) (Q : Bool → Hp → Prop) (k : Bool → S → Prop), Φ E.H0 → Rel X.K E ρ G σ H → LkT X.K E G σ k Q → ft ρ k noX → tt σ H Q)
    (re : ∀ (E : Ent) (ρ : S) (G : Hp) (σ : L2.St) (H : Hp) (Q : VK) (k : KE), Φ E.H0 → Rel X.K E ρ G σ H → LkE X.K E G σ k Q → fe ρ k noX → te σ H Q) :
    RefE X (tLc wi tg' tt te (own.map (·.2))) (fLc (own.map (·.2)) fi g ft fe) := fun W E ρ G σ H Q k x tk R lx lk hf => by
  have told := hΦ W E tk
  generalize hvs : own.map (·.2) = vs at *
  refine ri W E ρ G σ H _ _ x tk R lx (fun ds ρ1 G1 J H1 e1 R1 jo h1 => fun q nq => ?_) hf
  obtain ⟨ok, h1⟩ := h1
  have D0 := R1.h0 nq
  have DF := R1.f0 nq
  have DP := R1.notps nq
  let Pv : Nat → Hp → Prop := fun i H' => ∃ ρ' G' accV acc, Ex G1 G' ∧ Rel X.K E ρ' G' σ H' ∧ Nown vs ρ' ∧ H' q = some (.lst accV) ∧ G' q = none ∧ Loose ρ' σ q ∧ Rps X.K G' accV acc ∧ lcF vs g ft fe (ds.drop i) acc ρ' fun acc ρ2 => k (.own false (.list acc)) ρ2
  refine ⟨fun i m H' => m = ds.length - i ∧ i ≤ ds.length ∧ Pv i H', ⟨ds.length, by simp, Nat.zero_le _, ρ1, G1, [], [], Ex.refl _, R1.alloc nq, okv_of ok, upd_same, R1.g0 nq, R1.loose nq, .nil, h1⟩, ?_⟩
  rintro i m H' ⟨rfl, hi, ρ', G', accV, acc, e2, R2, no, hD, gD, lD, racc, h2⟩
  by_cases hlt : i < ds.length
  · rw [List.drop_eq_getElem_cons hlt] at h2
    refine .inr ⟨jo.go i E ρ' G' σ H' hlt e2 R2, Pv (i + 1), fun H3 p => ⟨ds.length - (i + 1), by omega, rfl, hlt, p⟩, fun v H3 y => ?_⟩
    have RA := R2.aside hD gD lD
    obtain ⟨G3, e3, R3, rp⟩ := jo.yld i ds[i] _ ρ' G' σ H' v H3 (List.getElem?_eq_getElem hlt) e2 RA y
    refine rg _ _ G3 _ H3 v _ _ _ (R3.wipe vs) rp (fun ρ4 σ4 R4 l4 s4 _ h4 => ?_) h2
    have ag : ∀ j, j ∉ vs → σ4[j]? = σ[j]? := fun j hj => by rw [s4 j fun z => hj (hin j z), wipe_out hj]
    have l4' : σ4.length = σ.length := by rw [l4, wipe_length]
    refine ⟨wipe_same l4' ag, ?_⟩
    -- what a turn leaves
    have fin : ∀ {ρ5 : S} {G5 H5 : Hp} {accV2 : List V} {acc2 : List D}, Ex G3 G5 → Rel X.K E ρ5 G5 σ4 H5 → H5 q = some (.lst accV2) → G5 q = none → Loose ρ5 σ4 q → Rps X.K G5 accV2 acc2 → lcF vs g ft fe (ds.drop (i + 1)) acc2 (backA ρ' vs ρ5) (fun acc ρ2 => k (.own false (.list acc)) ρ2) → Pv (i + 1) H5 :=
      fun {ρ5 G5 H5 accV2 acc2} e5 R5 a1 a2 a3 a4 a5 => ⟨_, G5, accV2, acc2, (e2.trans e3).trans e5, R2.unblk R5 (e3.trans e5) no l4' ag, no.back, a1, a2, loose_back a3 no ag, a4, a5⟩
    refine rt _ ρ4 G3 σ4 H3 _ _ (by exact told) R4 (fun b ρ5 G5 H5 e5 R5 h5 => ?_) h4
    cases b with
    | false =>
      obtain ⟨R6, a1, a2, a3⟩ := R5.back DF
      exact fin e5 R6 a1 a2 a3 (racc.mono (e3.trans e5)) h5
    | true =>
      refine re _ ρ5 G5 σ4 H5 _ _ (by exact told) R5 (fun a ρ6 G6 u H6 e6 R6 q6 h6 => ?_) h5
      obtain ⟨a', G7, _, e7, R7, q7, h7⟩ := q6.fz R6 h6
      obtain ⟨r, rr, hz, h7⟩ := q7.datK h7
      obtain ⟨R8, a1, a2, a3⟩ := R7.back DF
      have all := ((e3.trans e5).trans e6).trans e7
      refine ⟨accV, a1, by rw [racc.len]; exact hz, ?_⟩
      refine fin ((e5.trans e6).trans e7) (R8.other a3 a2 D0 DP DF (mut_lst a1)) upd_same a2 a3 ((racc.mono all).app (.cons rr .nil)) h7
  · have e : i = ds.length := by omega
    subst e
    rw [List.drop_length] at h2
    exact .inl ⟨jo.stop E ρ' G' σ H' e2 R2, lk (.own false (.list acc)) ρ' G' _ H' (e1.trans e2) R2 (.inr (.inr ⟨rfl, rfl, q, rfl, gD, ⟨accV, hD, racc⟩, ⟨D0, DF⟩, lD⟩)) h2⟩
theorem ref_lc {wi : TI} {tg' : TG} {tt : TT} {te : TE} (ri : RefI X wi fi) (rg : RefG X tg' is g) (hin : ∀ i ∈ is, i ∈ own.map (·.2))
    (rt : ∀ (E : Ent) (ρ : S) (G : Hp) (σ : L2.St) (H : Hp) (Q : Bool → Hp → Prop) (k : Bool → S → Prop), Rel X.K E ρ G σ H → LkT X.K E G σ k Q → ft ρ k noX → tt σ H Q)
    (re : ∀ (E : Ent) (ρ : S) (G : Hp) (σ : L2.St) (H : Hp) (Q : VK) (k : KE), Rel X.K E ρ G σ H → LkE X.K E G σ k Q → fe ρ k noX → te σ H Q) :
    RefE X (tLc wi tg' tt te (own.map (·.2))) (fLc (own.map (·.2)) fi g ft fe) :=
  ref_lcΦ (Φ := fun _ => True) (fun _ _ _ => trivial) ri rg hin (fun E ρ G σ H Q k _ => rt E ρ G σ H Q k) fun E ρ G σ H Q k _ => re E ρ G σ H Q k
theorem lkx0 {K : PySem.W.Frag} {E : Ent} {W : WX} : LkX K E noX W := fun _ _ _ _ _ _ _ _ h => h.elim
def wG (X : Cx) (tg : Expr) : TG := fun v σ H Q => ∀ (pins : List (Addr × Obj)) (s : Shared) (u : Value), Inv X pins σ H s → RelV v u → wpAny (model X.prog X.w) X.A (assign tg X.env u) (fun _ s' => ∃ σ' H', Inv X pins σ' H' s' ∧ Q σ' H') X.xe s
theorem TrG.w (h : TrG X tg is g) : RefG X (wG X tg) is g := by
  obtain ⟨t, p, r⟩ := h
  exact fun E ρ G σ H v d Q k R rp lk hf pins s u I ru => p.run pins s σ H v u Q I ru (r E ρ G σ H v d Q k R rp lk hf)
abbrev Blk (X : Cx) (scope : Scope) (P : Cx → Prop) : Prop := ∀ (s : Shared) (H : Hp) (C : Addr) (cl : List (Str × Addr)) (fp : List Addr), P (X.blk s H scope (compEnvC scope cl C X.env) fp)
def bG (X : Cx) (scope : Scope) (tg : Expr) : TG := fun v σ H Q => Blk X scope fun Y => wG Y tg v σ H Q
def bT (X : Cx) (scope : Scope) (c : Expr) : TT := fun σ H Q => Blk X scope fun Y => wT Y c σ H Q
def bE (X : Cx) (scope : Scope) (e : Expr) : TE := fun σ H Q => Blk X scope fun Y => wE Y e σ H Q
theorem ref_bG (h : Blk X scope fun Y => TrG Y tg is g) : RefG X (bG X scope tg) is g := fun E ρ G σ H v d Q k R rp lk hf s H0 C cl fp => (h s H0 C cl fp).w E ρ G σ H v d Q k R rp lk hf
theorem ref_bT {c : Expr} (h : Blk X scope fun Y => TrT Y c ft) (E : Ent) (ρ : S) (G : Hp) (σ : L2.St) (H : Hp) (Q : Bool → Hp → Prop) (k : Bool → S → Prop) (R : Rel X.K E ρ G σ H) (lk : LkT X.K E G σ k Q) (hf : ft ρ k noX) : bT X scope c σ H Q :=
  fun s H0 C cl fp => h s H0 C cl fp _ E ρ G σ H Q k noX ⟨tk0, fun z => (no_self z).elim⟩ R lkx0 lk hf
theorem ref_bE (h : Blk X scope fun Y => TrE Y elt fe) (E : Ent) (ρ : S) (G : Hp) (σ : L2.St) (H : Hp) (Q : VK) (k : KE) (R : Rel X.K E ρ G σ H) (lk : LkE X.K E G σ k Q) (hf : fe ρ k noX) : bE X scope elt σ H Q :=
  fun s H0 C cl fp => h s H0 C cl fp _ E ρ G σ H Q k noX ⟨tk0, fun z => (no_self z).elim⟩ R lkx0 lk hf
theorem ref_yes (E : Ent) (ρ : S) (G : Hp) (σ : L2.St) (H : Hp) (Q : Bool → Hp → Prop) (k : Bool → S → Prop) (R : Rel X.K E ρ G σ H) (lk : LkT X.K E G σ k Q) (hf : fYes ρ k noX) : tYes σ H Q := lk true ρ G H (Ex.refl G) R hf
/-- [elt for tg in iter] -/
theorem xe_lc (hi : TrI X tg iter fi) (hc : X.calm = true) (hN : X.N.Nodup) (ok : BlkOk X.N X.env.scope scope own) (hg : Blk X scope fun Y => TrG Y tg is g) (he : Blk X scope fun Y => TrE Y elt fe) (hin : ∀ i ∈ is, i ∈ own.map (·.2) := by decide)
    (hs : ∀ x, foldedSetIterable iter X.env x = pure x := by intro _; rfl) : TrE X (.ListComp elt [⟨tg, iter, [], 0⟩] scope pos) (fLc (own.map (·.2)) fi g fYes fe) := by
  obtain ⟨wi, pi, ri⟩ := hi
  exact .of (pe_lc hc hN pi ok (g := bG X scope tg) (tt := tYes) (te := bE X scope elt) (fun s H C cl fp => ⟨fun pins s1 σ H1 v u Q I r h => h s H C cl fp pins s1 u I r⟩) (fun _ _ _ _ _ => pts_nil) (fun s H C cl fp => ⟨fun pins s1 σ H1 Q I h => h s H C cl fp pins s1 I⟩) hs)
    (ref_lc ri (ref_bG hg) hin ref_yes (ref_bE he))
/-- [elt for tg in iter if c] -/
theorem xe_lcif {c : Expr} (hi : TrI X tg iter fi) (hc : X.calm = true) (hN : X.N.Nodup) (ok : BlkOk X.N X.env.scope scope own) (hg : Blk X scope fun Y => TrG Y tg is g) (ht : Blk X scope fun Y => TrT Y c ft) (he : Blk X scope fun Y => TrE Y elt fe) (hin : ∀ i ∈ is, i ∈ own.map (·.2) := by decide)
    (hs : ∀ x, foldedSetIterable iter X.env x = pure x := by intro _; rfl) : TrE X (.ListComp elt [⟨tg, iter, [c], 0⟩] scope pos) (fLc (own.map (·.2)) fi g ft fe) := by
  obtain ⟨wi, pi, ri⟩ := hi
  exact .of (pe_lc hc hN pi ok (g := bG X scope tg) (tt := bT X scope c) (te := bE X scope elt) (fun s H C cl fp => ⟨fun pins s1 σ H1 v u Q I r h => h s H C cl fp pins s1 u I r⟩) (fun s H C cl fp => pts_one ⟨fun pins s1 σ H1 Q I h => h s H C cl fp pins s1 I⟩) (fun s H C cl fp => ⟨fun pins s1 σ H1 Q I h => h s H C cl fp pins s1 I⟩) hs)
    (ref_lc ri (ref_bG hg) hin (ref_bT ht) (ref_bE he))
/-- y = [elt for tg in iter] -/
theorem ts_lc (i : Nat) {y : Str} {py spos : Pos} (hi : TrI X tg iter fi) (hc : X.calm = true) (hN : X.N.Nodup) (hy : X.N[i]? = some y) (hyl : X.env.scope.names.lookup y = some .local) (hsw : swapsWith (.ListComp elt [⟨tg, iter, [], 0⟩] scope pos) (some (.Name y py)) spos.line X.env = pure true)
    (ok : BlkOk X.N X.env.scope scope own) (hg : Blk X scope fun Y => TrG Y tg is g) (he : Blk X scope fun Y => TrE Y elt fe) (hin : ∀ i ∈ is, i ∈ own.map (·.2) := by decide) (hs : ∀ x, foldedSetIterable iter X.env x = pure x := by intro _; rfl) :
    TrS X (.Assign [.Name y py] (.ListComp elt [⟨tg, iter, [], 0⟩] scope pos) spos) (sSet i (fLc (own.map (·.2)) fi g fYes fe)) := by
  obtain ⟨wi, pi, ri⟩ := hi
  exact .of (ps_setLc hc hN hy hyl hsw pi ok (g := bG X scope tg) (tt := tYes) (te := bE X scope elt) (fun s H C cl fp => ⟨fun pins s1 σ H1 v u Q I r h => h s H C cl fp pins s1 u I r⟩) (fun _ _ _ _ _ => pts_nil) (fun s H C cl fp => ⟨fun pins s1 σ H1 Q I h => h s H C cl fp pins s1 I⟩) hs)
    (ref_set (ref_lc ri (ref_bG hg) hin ref_yes (ref_bE he)))
theorem ts_lcif (i : Nat) {c : Expr} {y : Str} {py spos : Pos} (hi : TrI X tg iter fi) (hc : X.calm = true) (hN : X.N.Nodup) (hy : X.N[i]? = some y) (hyl : X.env.scope.names.lookup y = some .local) (hsw : swapsWith (.ListComp elt [⟨tg, iter, [c], 0⟩] scope pos) (some (.Name y py)) spos.line X.env = pure true)
    (ok : BlkOk X.N X.env.scope scope own) (hg : Blk X scope fun Y => TrG Y tg is g) (ht : Blk X scope fun Y => TrT Y c ft) (he : Blk X scope fun Y => TrE Y elt fe) (hin : ∀ i ∈ is, i ∈ own.map (·.2) := by decide) (hs : ∀ x, foldedSetIterable iter X.env x = pure x := by intro _; rfl) :
    TrS X (.Assign [.Name y py] (.ListComp elt [⟨tg, iter, [c], 0⟩] scope pos) spos) (sSet i (fLc (own.map (·.2)) fi g ft fe)) := by
  obtain ⟨wi, pi, ri⟩ := hi
  exact .of (ps_setLc hc hN hy hyl hsw pi ok (g := bG X scope tg) (tt := bT X scope c) (te := bE X scope elt) (fun s H C cl fp => ⟨fun pins s1 σ H1 v u Q I r h => h s H C cl fp pins s1 u I r⟩) (fun s H C cl fp => pts_one ⟨fun pins s1 σ H1 Q I h => h s H C cl fp pins s1 I⟩) (fun s H C cl fp => ⟨fun pins s1 σ H1 Q I h => h s H C cl fp pins s1 I⟩) hs)
    (ref_set (ref_lc ri (ref_bG hg) hin (ref_bT ht) (ref_bE he)))
end
end Tr
set_option Elab.async false
set_option linter.all false
set_option maxRecDepth 100000
namespace Tr
open PySem PySem.Spec PyProof.Rows L2 Evl Kc Kz Kx
abbrev FD := List AV → (AV → Prop) → (Exn → Prop) → Prop
def potPs : List AV → List V → List Addr
  | .pot _ :: as, .ref p :: vs => p :: potPs as vs
  | _ :: as, _ :: vs => potPs as vs
  | _, _ => []
theorem mem_potPs {p : Addr} : ∀ {as : List AV} {vs : List V}, p ∈ potPs as vs ↔ ∃ (j : Nat) (b : Bool), as[j]? = some (.pot b) ∧ vs[j]? = some (.ref p) := by
  intro as
  induction as with
  | nil => intro vs; cases vs <;> simp [potPs]
  | cons a as ih =>
    intro vs
    cases vs with
    | nil => cases a <;> simp [potPs]
    | cons v vs =>
      have step : (∃ (j : Nat) (b : Bool), (a :: as)[j]? = some (.pot b) ∧ (v :: vs)[j]? = some (.ref p)) ↔ ((∃ b, a = .pot b) ∧ v = .ref p) ∨ ∃ (j : Nat) (b : Bool), as[j]? = some (.pot b) ∧ vs[j]? = some (.ref p) := by
        constructor
        · rintro ⟨j, b, h1, h2⟩
          cases j with
          | zero => exact .inl ⟨⟨b, Option.some.inj h1⟩, Option.some.inj h2⟩
          | succ j => exact .inr ⟨j, b, h1, h2⟩
        · rintro (⟨⟨b, rfl⟩, rfl⟩ | ⟨j, b, h1, h2⟩)
          · exact ⟨0, b, rfl, rfl⟩
          · exact ⟨j + 1, b, h1, h2⟩
      rw [step, ← ih]
      cases a with
      | pot b =>
        cases v with
        | ref q =>
          show p ∈ q :: potPs as vs ↔ _
          rw [List.mem_cons]
          constructor
          · rintro (rfl | h)
            · exact .inl ⟨⟨b, rfl⟩, rfl⟩
            · exact .inr h
          · rintro (⟨_, h⟩ | h)
            · cases h; exact .inl rfl
            · exact .inr h
        | _ =>
          show p ∈ potPs as vs ↔ _
          exact ⟨.inr, fun h => h.elim (fun z => nomatch z.2) id⟩
      | _ =>
        show p ∈ potPs as vs ↔ _
        exact ⟨.inr, fun h => h.elim (fun z => by obtain ⟨⟨b, z⟩, _⟩ := z; cases z) id⟩
structure ArgOk (K : PySem.W.Frag) (G H : Hp) (as : List AV) (vs : List V) : Prop where
  hold : Paired (fun a v => Hold K G H a v) as vs
  pots : ∀ a ∈ as, a.isOwn = true → a = .pot true
  apart : ∀ (i j : Nat) (a b : AV) (v : V), i ≠ j → as[i]? = some a → as[j]? = some b → a.isOwn = true → b.isOwn = true → vs[i]? = some v → vs[j]? = some v → False
  gno : ∀ b qs, G b ≠ some (.tbl qs)
structure Post (K : PySem.W.Frag) (G H : Hp) (ps : List Addr) (G' H' : Hp) : Prop where
  sub : Ex G' H'
  grow : Ex G G'
  new : ∀ b o, G' b = some o → G b = some o ∨ H b = none
  but : Kept (TN K) ps H H'
  pots : ∀ p ∈ ps, Pot H' p
  gno : ∀ b qs, G' b ≠ some (.tbl qs)
def RRes (K : PySem.W.Frag) (H G' H' : Hp) (r : AV) (v : V) : Prop := (r.isOwn = false ∧ Hold K G' H' r v) ∨ (r.isOwn = true ∧ r.isPar = false ∧ ∃ p, v = .ref p ∧ G' p = none ∧ Stands K G' H' p r ∧ H p = none)
/-- the promise of a def by trees -/
def spT (K : PySem.W.Frag) (n : Nat) (F : FD) : Sp := fun vs H Q EX => ∃ (G : Hp) (as : List AV) (k : AV → Prop) (x : Exn → Prop), as.length = n ∧ Ex G H ∧ ArgOk K G H as vs ∧ F as k x ∧
  (∀ r G' v H', Post K G H (potPs as vs) G' H' → RRes K H G' H' r v → k r → Q v H') ∧ (∀ c G' dd H', Post K G H (potPs as vs) G' H' → XRes K G' c dd → x c → EX (.ref c.cls) (some dd) H')
theorem paired_get {α β : Type} {P : α → β → Prop} : ∀ {as : List α} {bs : List β} {i : Nat} {a : α}, Paired P as bs → as[i]? = some a → ∃ b, bs[i]? = some b ∧ P a b
  | _, _, i, _, .nil, e => by cases i <;> cases e
  | _, _, 0, _, .cons h _, e => by cases Option.some.inj e; exact ⟨_, rfl, h⟩
  | _, _, i + 1, _, .cons _ t, e => paired_get (i := i) t e
def rtK (a : AV) (ρ : S) (k : AV → Prop) : Prop :=
  match a with
  | .at i => match ρ[i]? with
    | some (some (.own false d)) => k (.own false d)
    | some (some (.pot false)) => k (.pot false)
    | _ => False
  | .own true _ => False
  | .pot true => False
  | a => k a
def start0 (n : Nat) (as : List AV) : S := as.map some ++ List.replicate (n - as.length) none
section
variable {K : PySem.W.Frag} {G H : Hp} {as : List AV} {vs : List V}
theorem start_get {n : Nat} {i : Nat} {a : AV} (h : (start0 n as)[i]? = some (some a)) : as[i]? = some a := by
  unfold start0 at h
  rw [List.getElem?_append] at h
  split at h
  · rw [List.getElem?_map] at h
    cases e : as[i]? with
    | none => exact absurd h (by rw [e]; intro z; cases z)
    | some b => rw [e] at h; cases h; rfl
  · rw [List.getElem?_replicate] at h
    split at h <;> cases h
theorem start_v {N : List Str} {i : Nat} {v : V} (h : vs[i]? = some v) : (start N vs)[i]? = some (some v) := by
  have hi := (List.getElem?_eq_some_iff.mp h).1
  unfold L2.start
  rw [List.getElem?_append, if_pos (by rw [List.length_map]; exact hi), List.getElem?_map, h]
  rfl
theorem rel_start {N : List Str} (e : Ex G H) (ok : ArgOk K G H as vs) (hl : vs.length ≤ N.length) : Rel K ⟨vs, potPs as vs, H, G, fun _ => none⟩ (start0 N.length as) G (start N vs) H := by
  have pl : as.length = vs.length := Paired.length ok.hold
  have at_ : ∀ {i : Nat} {a : AV}, (start0 N.length as)[i]? = some (some a) → as[i]? = some a ∧ ∃ v, vs[i]? = some v ∧ (start N vs)[i]? = some (some v) ∧ Hold K G H a v := fun {i a} h => by
    have h1 := start_get h
    obtain ⟨v, h2, h3⟩ := paired_get ok.hold h1
    exact ⟨h1, v, h2, start_v h2, h3⟩
  refine ⟨e, ?_, fun i a h => ?_, fun i j a b v n h1 h2 o1 o2 e1 e2 => ?_, fun i a p h o z => ?_, fun i a h o => ?_, Ex.refl _, fun b o h => .inl h, .refl, fun p hp => ?_, fun p hp => ?_, (fun b o h => nomatch h), (fun b o h => nomatch h), ok.gno⟩
  · unfold start0 L2.start
    rw [List.length_append, List.length_append, List.length_map, List.length_map, List.length_replicate, List.length_replicate, pl]
  · obtain ⟨_, v, _, h2, h3⟩ := at_ h
    exact ⟨v, h2, h3⟩
  · obtain ⟨a1, v1, w1, s1, _⟩ := at_ h1
    obtain ⟨a2, v2, w2, s2, _⟩ := at_ h2
    rw [s1] at e1
    rw [s2] at e2
    cases e1
    cases e2
    exact ok.apart i j a b v n a1 a2 o1 o2 w1 w2
  · obtain ⟨a1, v1, w1, s1, _⟩ := at_ h
    rw [s1] at z
    cases z
    have := ok.pots a (List.mem_of_getElem? a1) o
    subst this
    exact .inl ⟨rfl, mem_potPs.mpr ⟨i, true, a1, w1⟩⟩
  · obtain ⟨a1, v1, w1, s1, _⟩ := at_ h
    show (start N vs)[i]? = (vs[i]?).map some
    rw [s1, w1]
    rfl
  · obtain ⟨j, b, h1, h2⟩ := mem_potPs.mp hp
    obtain ⟨v, h3, h4⟩ := paired_get ok.hold h1
    rw [h2] at h3
    cases h3
    obtain ⟨q, e1, _, st⟩ := h4
    cases e1
    exact st
  · obtain ⟨j, b, h1, h2⟩ := mem_potPs.mp hp
    obtain ⟨v, h3, h4⟩ := paired_get ok.hold h1
    rw [h2] at h3
    cases h3
    obtain ⟨q, e1, _, st⟩ := h4
    cases e1
    exact pot_some st
theorem Rel.post {ρ' : S} {G' H' : Hp} {σ' : L2.St} {ps : List Addr} {F : Hp} (r : Rel K ⟨vs, ps, H, G, F⟩ ρ' G' σ' H') : Post K G H ps G' H' := ⟨r.sub, r.grow, r.new, r.but, r.live, r.gno⟩
theorem rtK_of {E : Ent} {ρ : S} {G' H' : Hp} {σ : L2.St} {a : AV} {v : V} {k : AV → Prop} (r : Rel K E ρ G' σ H') (q : Res K E ρ G' σ H' a v) (h : rtK a ρ k) : ∃ b, RRes K E.H0 G' H' b v ∧ k b := by
  rcases q with ⟨i, rfl, e⟩ | ⟨no, hh⟩ | ⟨yo, np, p, rfl, gp, st, h0, ls⟩
  · unfold rtK at h
    dsimp only at h
    split at h
    · rename_i d e1
      obtain ⟨u, e2, hh⟩ := r.slot i _ e1
      rw [e] at e2
      cases e2
      obtain ⟨p, rfl, gp, st⟩ := hh
      rcases r.mine i _ p e1 rfl e with y | y
      · cases y.1
      · exact ⟨_, .inr ⟨rfl, rfl, p, rfl, gp, st, y.2⟩, h⟩
    · rename_i e1
      obtain ⟨u, e2, hh⟩ := r.slot i _ e1
      rw [e] at e2
      cases e2
      obtain ⟨p, rfl, gp, st⟩ := hh
      rcases r.mine i _ p e1 rfl e with y | y
      · cases y.1
      · exact ⟨_, .inr ⟨rfl, rfl, p, rfl, gp, st, y.2⟩, h⟩
    · exact h.elim
  · refine ⟨a, .inl ⟨no, hh⟩, ?_⟩
    cases a <;> first | exact h | exact hh.elim | cases no
  · refine ⟨a, .inr ⟨yo, np, p, rfl, gp, st, h0.1⟩, ?_⟩
    cases a with
    | own b d => cases b <;> first | exact h | cases np
    | pot b => cases b <;> first | exact h | cases np
    | _ => cases yo
end
/-- all but the tables -/
def noTab (H : Hp) : Hp := fun b => match H b with
  | some (.tbl _) => none
  | o => o
theorem noTab_ex {H : Hp} : Ex (noTab H) H := fun b o h => by
  unfold noTab at h
  split at h
  · cases h
  · exact h
theorem noTab_gno {H : Hp} : ∀ b qs, noTab H b ≠ some (.tbl qs) := fun b qs h => by
  unfold noTab at h
  split at h
  · cases h
  · rename_i n
    exact n _ h
theorem noTab_at {H : Hp} {b : Addr} {o : HO} (h : H b = some o) (n : ∀ qs, o ≠ .tbl qs) : noTab H b = some o := by
  unfold noTab
  split
  · rename_i qs e
    rw [h] at e
    exact absurd (Option.some.inj e) (n _)
  · exact h
theorem noTab_sql {K : PySem.W.Frag} {H : Hp} {a : Addr} {xs : List V} (h : SqL K H a xs) : SqL K (noTab H) a xs := by
  rcases h with (z | ⟨u, z⟩) | z
  · exact .inl (.inl (noTab_at z nofun))
  · exact .inl (.inr ⟨u, noTab_at z nofun⟩)
  · exact .inr z
section
variable {K : PySem.W.Frag} {mg : Str → Option Value} {P : Program} {base : Heap} {w : World}
/-- a def keeps its promise by trees -/
theorem fnT {nm qual : Str} {st : Stmt} {f : Addr} {fd : FuncData} {N ps : List Str} {k : Nat} {F : FD} {fb : FS} (Fn : Fun K nm qual st f fd) (S : FnScope N ps (defScope st))
    (body : ∀ (cdv : Value) (A : Around) (outer : List Env) (s : Shared) (H : Hp) (E : XK), A.guards = some [] → Room k (A.deeper (envOfC qual (defScope st) s.heap.objs.size f cdv)) → TrB (cxOf (CXL P w mg) P w K mg base N qual (defScope st) f cdv A outer s H E) (defBody st) fb)
    (imp : ∀ as k x, as.length = ps.length → F as k x → fb (start0 N.length as) { nx := fun _ => k (.dat .none), rt := fun a ρ => rtK a ρ k } fun c _ => x c) :
    FnG P w K mg base (CXL P w mg) (k + 1) f fd ps (spT K ps.length F) := by
  obtain ⟨oc, od, kV, doc, pm, an, cdv, ct, osl, rfl, lk, cin⟩ := Fn.ex
  have pln : ps.length ≤ N.length := by
    have := congrArg List.length S.pre
    rw [List.length_take] at this
    omega
  refine fnG_of lk cin S (fun vs H Q E h => ?_) fun A outer s H vs Q E gd room want => ⟨_, pb_w, ?_⟩
  · obtain ⟨G, as, k, x, h1, _, h2, _⟩ := h
    rw [← h1]
    exact (Paired.length h2.hold).symm
  · obtain ⟨G, as, k, x, h1, h2, h3, h4, h5, h6⟩ := want
    have vl : vs.length ≤ N.length := by
      rw [← Paired.length h3.hold, h1]
      exact pln
    refine body cdv A outer s H E gd room (fun cls d _ H => E cls d H) ⟨vs, potPs as vs, H, G, fun _ => none⟩ _ G _ H _ { nx := fun _ => k (.dat .none), rt := fun a ρ => rtK a ρ k } (fun c _ => x c) ⟨tkl_of rfl rfl rfl rfl, fun _ _ _ _ t => t⟩ (rel_start h2 h3 vl) (fun c ρ' G' σ' dd H' R q hx => ?_) ⟨fun ρ' G' σ' H' _ R hn => ?_, fun a ρ' G' σ' v H' _ R q hr => ?_, fun ρ' G' σ' H' _ _ z => z.elim, fun ρ' G' σ' H' _ _ z => z.elim⟩ (imp as k x h1 h4)
    · exact h6 c G' dd H' R.post q hx
    · exact h5 (.dat .none) G' .non H' R.post (.inl ⟨rfl, .non⟩) hn
    · obtain ⟨b, rb, hk⟩ := rtK_of R q hr
      exact h5 b G' v H' R.post rb hk
end
end Tr
set_option Elab.async false
set_option linter.all false
set_option maxRecDepth 100000
namespace Tr
open PySem PySem.Spec PyProof.Rows L2 Evl Kc Kz Kx
/-- how a value is handed over: a pot with the right to draw, an owned list to be read only -/
def conv (ρ : S) (a : AV) : Option (AV × Bool) :=
  match a with
  | .at i => match ρ[i]? with
    | some (some (.own _ d)) => some (.dat d, true)
    | some (some (.pot _)) => some (.pot true, false)
    | _ => none
  | .own _ _ => none
  | .pot _ => none
  | a => some (a, false)
def argK (ρ : S) : List AV → (List AV → Bool → Prop) → Prop
  | [], k => k [] false
  | a :: as, k => match conv ρ a with
    | some (b, w) => argK ρ as fun bs v => k (b :: bs) (w || v)
    | none => False
mutual
/-- a tree without lists and dicts -/
def tupD : D → Bool
  | .tuple ds => tupDs ds
  | .list _ => false
  | .dict _ => false
  | _ => true
def tupDs : List D → Bool
  | [] => true
  | d :: ds => tupD d && tupDs ds
end
def flAV : AV → Bool
  | .dat d => tupD d
  | .own _ (.list ds) => tupDs ds
  | .raw _ => true
  | _ => false
def flX (c : Exn) : Bool := c.fs.all fun p => flatD p.2
def fCall (n : Nat) (F : FD) (fr : FA) : FE := fun ρ k x => fr ρ (fun as ρ1 => argK ρ1 as fun bs w => (bs.filter AV.isOwn).length ≤ 1 ∧ bs.length = n ∧ F bs (fun r => (w = false ∨ flAV r = true) ∧ k r ρ1) (fun c => (w = false ∨ flX c = true) ∧ x c ρ1)) x
theorem flat_any {K : PySem.W.Frag} {G G' : Hp} {v : V} {d : D} (h : Rp K G v d) (f : flatD d = true) : Rp K G' v d := by
  cases h <;> first
    | exact .non
    | exact .bl _
    | exact .int _
    | exact .str _
    | cases f
theorem flds_any {K : PySem.W.Frag} {G G' : Hp} : ∀ {v : List (Str × V)} {d : List (Str × D)}, Flds K G v d → (d.all fun p => flatD p.2) = true → Flds K G' v d
  | _, _, .nil, _ => .nil
  | _, _, .cons h t, f => by
    simp only [List.all_cons, Bool.and_eq_true] at f
    exact .cons ⟨h.1, flat_any h.2 f.1⟩ (flds_any t f.2)
/-- the addresses that are lent -/
def Lent (ρ : S) (σ : L2.St) (as : List AV) (q : Addr) : Prop := ∃ (i : Nat) (b : Bool) (d : D), AV.at i ∈ as ∧ ρ[i]? = some (some (.own b d)) ∧ σ[i]? = some (some (.ref q))
open Classical in
noncomputable def lend (L : Addr → Prop) (G H : Hp) : Hp := fun q => if L q then H q else G q
open Classical in
noncomputable def keepOff (L : Addr → Prop) (G : Hp) : Hp := fun q => if L q then none else G q
theorem off_in {G : Hp} {L : Addr → Prop} {q : Addr} (h : L q) : keepOff L G q = none := by unfold keepOff; rw [if_pos h]
theorem off_out {G : Hp} {L : Addr → Prop} {q : Addr} (h : ¬ L q) : keepOff L G q = G q := by unfold keepOff; rw [if_neg h]
theorem off_rd {G : Hp} {L : Addr → Prop} {q : Addr} {o : HO} (nt : ¬ L q) (h : Rd G q o) : Rd (keepOff L G) q o := by
  rcases h with h | h
  · exact .inl ((off_out nt).trans h)
  · exact .inr (h.elim fun u e => ⟨u, (off_out nt).trans e⟩)
mutual
theorem tup_off {K : PySem.W.Frag} {G : Hp} {L : Addr → Prop} (nt : ∀ q xs, L q → ¬ Rd G q (.tup xs)) : ∀ {v : V} {d : D}, Rp K G v d → tupD d = true → Rp K (keepOff L G) v d
  | _, _, .non, _ => .non
  | _, _, .bl b, _ => .bl b
  | _, _, .int i, _ => .int i
  | _, _, .str x, _ => .str x
  | _, _, .tup h a, f => .tup (by
      rcases h with h | h
      · exact .inl (off_rd (fun l => nt _ _ l h) h)
      · exact .inr h) (tups_off nt a (by simpa only [tupD] using f))
  | _, _, .lst _ _, f => by simp only [tupD] at f; cases f
  | _, _, .dct _ _, f => by simp only [tupD] at f; cases f
theorem tups_off {K : PySem.W.Frag} {G : Hp} {L : Addr → Prop} (nt : ∀ q xs, L q → ¬ Rd G q (.tup xs)) : ∀ {v : List V} {d : List D}, Rps K G v d → tupDs d = true → Rps K (keepOff L G) v d
  | _, _, .nil, _ => .nil
  | _, _, .cons h t, f => by
    simp only [tupDs, Bool.and_eq_true] at f
    exact .cons (tup_off nt h f.1) (tups_off nt t f.2)
end
section
variable {K : PySem.W.Frag} {E : Ent} {ρ : S} {G H : Hp} {σ : L2.St} {as bs : List AV} {vs : List V}
theorem lend_in {L : Addr → Prop} {q : Addr} (h : L q) : lend L G H q = H q := by unfold lend; rw [if_pos h]
theorem lend_out {L : Addr → Prop} {q : Addr} (h : ¬ L q) : lend L G H q = G q := by unfold lend; rw [if_neg h]
theorem Lent.own (R : Rel K E ρ G σ H) {q : Addr} (h : Lent ρ σ as q) : ∃ (i : Nat) (b : Bool) (d : D), AV.at i ∈ as ∧ ρ[i]? = some (some (.own b d)) ∧ σ[i]? = some (some (.ref q)) ∧ G q = none ∧ Own K G H q d := by
  obtain ⟨i, b, d, h1, h2, h3⟩ := h
  obtain ⟨v, e, hh⟩ := R.slot i _ h2
  rw [h3] at e
  cases e
  obtain ⟨p, e, g, st⟩ := hh
  cases e
  exact ⟨i, b, d, h1, h2, h3, g, st⟩
theorem lend_ex (R : Rel K E ρ G σ H) : Ex G (lend (Lent ρ σ as) G H) := fun q o h => by
  by_cases l : Lent ρ σ as q
  · obtain ⟨_, _, _, _, _, _, g, _⟩ := l.own R
    rw [g] at h
    cases h
  · rw [lend_out l]
    exact h
theorem lend_sub (R : Rel K E ρ G σ H) : Ex (lend (Lent ρ σ as) G H) H := fun q o h => by
  by_cases l : Lent ρ σ as q
  · rw [lend_in l] at h
    exact h
  · rw [lend_out l] at h
    exact R.sub q o h
/-- what argK hands over -/
theorem argK_of (R : Rel K E ρ G σ H) (L : Addr → Prop) : ∀ {as : List AV} {vs : List V} {k : List AV → Bool → Prop}, (∀ q, Lent ρ σ as q → L q) → (∀ q, L q → ∃ (i : Nat) (b : Bool) (d : D), ρ[i]? = some (some (.own b d)) ∧ σ[i]? = some (some (.ref q))) → Ex G (lend L G H) →
    Paired (fun a v => a.isOwn = false ∧ Res K E ρ G σ H a v) as vs → argK ρ as k → ∃ (bs : List AV) (w : Bool), Paired (fun a v => Hold K (lend L G H) H a v) bs vs ∧ (∀ a ∈ bs, a.isOwn = true → a = .pot true) ∧
      (∀ (j : Nat), bs[j]? = some (.pot true) → ∃ (i : Nat) (b : Bool), as[j]? = some (.at i) ∧ ρ[i]? = some (some (.pot b)) ∧ ∀ v, vs[j]? = some v → σ[i]? = some (some v)) ∧ (w = false → ∀ q, ¬ Lent ρ σ as q) ∧ k bs w
  | [], _, k, _, _, _, .nil, h => ⟨[], false, .nil, (fun a z => nomatch z), (fun j z => by cases j <;> cases z), (fun _ q z => by obtain ⟨i, b, d, z, _⟩ := z; cases z), h⟩
  | a :: as, v :: vs, k, hL, hO, hE, .cons q t, h => by
    have sub : ∀ q, Lent ρ σ as q → L q := fun q z => by
      obtain ⟨i, b, d, z1, z2, z3⟩ := z
      exact hL q ⟨i, b, d, List.mem_cons_of_mem _ z1, z2, z3⟩
    have go : ∀ {b : AV} {w0 : Bool}, Hold K (lend L G H) H b v → (b.isOwn = true → b = .pot true) → (b = .pot true → ∃ (i : Nat) (c : Bool), a = .at i ∧ ρ[i]? = some (some (.pot c)) ∧ σ[i]? = some (some v)) → (w0 = false → ∀ (i : Nat) (c : Bool) (d : D), a = .at i → ρ[i]? = some (some (.own c d)) → False) →
        argK ρ as (fun bs v => k (b :: bs) (w0 || v)) → ∃ (bs : List AV) (w : Bool), Paired (fun a v => Hold K (lend L G H) H a v) bs (v :: vs) ∧ (∀ a ∈ bs, a.isOwn = true → a = .pot true) ∧
      (∀ (j : Nat), bs[j]? = some (.pot true) → ∃ (i : Nat) (b : Bool), (a :: as)[j]? = some (.at i) ∧ ρ[i]? = some (some (.pot b)) ∧ ∀ u, (v :: vs)[j]? = some u → σ[i]? = some (some u)) ∧ (w = false → ∀ q, ¬ Lent ρ σ (a :: as) q) ∧ k bs w := fun {b w0} hb h1 h2 h3 h4 => by
      obtain ⟨bs, w, p1, p2, p3, p4, hk⟩ := argK_of R L sub hO hE t h4
      refine ⟨b :: bs, w0 || w, .cons hb p1, fun c hc oc => ?_, fun j hj => ?_, fun hw q z => ?_, hk⟩
      · obtain rfl | hc := List.mem_cons.mp hc
        · exact h1 oc
        · exact p2 c hc oc
      · cases j with
        | zero =>
          obtain ⟨i, c, e1, e2, e3⟩ := h2 (Option.some.inj hj)
          exact ⟨i, c, by rw [e1]; rfl, e2, fun u hu => by cases Option.some.inj hu; exact e3⟩
        | succ j => exact p3 j hj
      · rw [Bool.or_eq_false_iff] at hw
        obtain ⟨i, c, d, z1, z2, z3⟩ := z
        rcases List.mem_cons.mp z1 with z1 | z1
        · exact h3 hw.1 i c d z1.symm z2
        · exact p4 hw.2 q ⟨i, c, d, z1, z2, z3⟩
    unfold argK at h
    obtain ⟨no, q⟩ := q
    have plain : ∀ {b : AV}, a = b → (∀ i, b ≠ .at i) → argK ρ as (fun bs v => k (b :: bs) (false || v)) → _ := fun {b} e na h => by
      subst e
      refine go (b := a) (w0 := false) ?_ (fun z => by rw [no] at z; cases z) (fun z => by rw [z] at no; cases no) (fun _ i c d z => absurd z (na i)) h
      rcases q with ⟨i, z, _⟩ | ⟨_, hh⟩ | ⟨z, _⟩
      · exact absurd z (na i)
      · exact hh.still hE no
      · rw [no] at z; cases z
    cases a with
    | «at» i =>
      have e : σ[i]? = some (some v) := by
        rcases q with ⟨i', z, e⟩ | ⟨_, hh⟩ | ⟨z, _⟩
        · cases z; exact e
        · exact hh.elim
        · cases z
      unfold conv at h
      dsimp only at h
      cases eo : ρ[i]? with
      | none => rw [eo] at h; exact h.elim
      | some oa =>
        rw [eo] at h
        cases oa with
        | none => exact h.elim
        | some av =>
          obtain ⟨u, e2, hh⟩ := R.slot i _ eo
          rw [e] at e2
          cases e2
          cases av with
          | own b d =>
            obtain ⟨p, rfl, g, st⟩ := hh
            have l : L p := hL p ⟨i, b, d, List.mem_cons_self, eo, e⟩
            refine go (b := .dat d) (w0 := true) ?_ (fun z => nomatch z) (fun z => nomatch z) (fun z => nomatch z) h
            have st : Own K G H p d := st
            cases d with
            | list ds => obtain ⟨xs, a1, a2⟩ := st; exact .lst ((lend_in l).trans a1) (a2.mono hE)
            | dict es => obtain ⟨xs, a1, a2⟩ := st; exact .dct ((lend_in l).trans a1) (a2.mono hE)
            | _ => exact st.elim
          | pot b =>
            obtain ⟨p, rfl, g, st⟩ := hh
            refine go (b := .pot true) (w0 := false) ⟨p, rfl, ?_, st⟩ (fun _ => rfl) (fun _ => ⟨i, b, rfl, eo, e⟩) (fun _ i' c d z z2 => ?_) h
            · refine (lend_out fun l => ?_).trans g
              obtain ⟨i', b', d', z1, z2⟩ := hO p l
              have ne : i ≠ i' := fun z => by rw [z, z1] at eo; cases eo
              exact R.apart i i' _ _ _ ne eo z1 rfl rfl e z2
            · cases z
              rw [eo] at z2
              cases z2
          | _ => exact h.elim
    | dat d => exact plain rfl (fun _ => nofun) h
    | obj C fs => exact plain rfl (fun _ => nofun) h
    | raw u => exact plain rfl (fun _ => nofun) h
    | scr ns => exact plain rfl (fun _ => nofun) h
    | exn a C dd fs => exact plain rfl (fun _ => nofun) h
    | clo f Gc => exact plain rfl (fun _ => nofun) h
    | own b d => cases no
    | pot b => cases no
theorem one_own {bs : List AV} (h : (bs.filter AV.isOwn).length ≤ 1) : ∀ (i j : Nat) (a b : AV), i ≠ j → bs[i]? = some a → bs[j]? = some b → a.isOwn = true → b.isOwn = true → False := by
  induction bs with
  | nil => intro i j a b _ e; cases i <;> cases e
  | cons c bs ih =>
    intro i j a b n e1 e2 o1 o2
    have big : ∀ {m : Nat} {d : AV}, bs[m]? = some d → d.isOwn = true → 1 ≤ (bs.filter AV.isOwn).length := fun {m d} e o => List.length_pos_of_mem (List.mem_filter.mpr ⟨List.mem_of_getElem? e, o⟩)
    cases i with
    | zero =>
      cases j with
      | zero => exact n rfl
      | succ j =>
        cases Option.some.inj e1
        rw [List.filter_cons_of_pos o1, List.length_cons] at h
        have := big (m := j) e2 o2
        omega
    | succ i =>
      cases j with
      | zero =>
        cases Option.some.inj e2
        rw [List.filter_cons_of_pos o2, List.length_cons] at h
        have := big (m := i) e1 o1
        omega
      | succ j =>
        refine ih ?_ i j a b (fun z => n (by rw [z])) e1 e2 o1 o2
        rw [List.filter_cons] at h
        split at h
        · rw [List.length_cons] at h; omega
        · exact h
end
section
variable {X : Cx} {k n : Nat} {f : Addr} {fd : FuncData} {ps : List Str} {F : FD} {x : Str} {p pos : Pos} {e : Expr} {es : List Expr} {fr : FA}
/-- what a def's promise gives to its caller -/
theorem after_call {K : PySem.W.Frag} {E : Ent} {ρ : S} {G H : Hp} {σ : L2.St} {as bs : List AV} {vs : List V} {G' H' : Hp} (R : Rel K E ρ G σ H)
    (hp : ∀ (j : Nat), bs[j]? = some (.pot true) → ∃ (i : Nat) (b : Bool), as[j]? = some (.at i) ∧ ρ[i]? = some (some (.pot b)) ∧ ∀ v, vs[j]? = some v → σ[i]? = some (some v)) (hpt : ∀ a ∈ bs, a.isOwn = true → a = .pot true)
    (po : Post K (lend (Lent ρ σ as) G H) H (potPs bs vs) G' H') : Rel K E ρ (keepOff (Lent ρ σ as) G') σ H' ∧ Ex G (keepOff (Lent ρ σ as) G') := by
  have e0 := lend_ex (as := as) R
  have gx : Ex G (keepOff (Lent ρ σ as) G') := fun q o h => by
    have l : ¬ Lent ρ σ as q := fun l => by
      obtain ⟨_, _, _, _, _, _, g, _⟩ := l.own R
      rw [g] at h
      cases h
    rw [off_out l]
    exact po.grow q o (e0 q o h)
  -- the pots that were handed over
  have pot : ∀ {q : Addr}, q ∈ potPs bs vs → ∃ (i : Nat) (b : Bool), ρ[i]? = some (some (.pot b)) ∧ σ[i]? = some (some (.ref q)) := fun {q} hq => by
    obtain ⟨j, b, h1, h2⟩ := mem_potPs.mp hq
    have := hpt _ (List.mem_of_getElem? h1) rfl
    cases this
    obtain ⟨i, c, _, h3, h4⟩ := hp j h1
    exact ⟨i, c, h3, h4 _ h2⟩
  have gone : ∀ {q : Addr}, G q = none → H q ≠ none → keepOff (Lent ρ σ as) G' q = none := fun {q} g h => by
    by_cases l : Lent ρ σ as q
    · exact off_in l
    · rw [off_out l]
      cases z : G' q with
      | none => rfl
      | some o =>
        rcases po.new q o z with y | y
        · rw [lend_out l, g] at y
          cases y
        · exact absurd y h
  refine ⟨⟨fun q o h => ?_, R.len, fun i a h => ?_, R.apart, R.mine, R.par, R.grow.trans gx, fun b o h => ?_, R.but.then po.but fun b hq => ?_, fun q hq => ?_, R.h0p, fun b o h => ?_, R.fno, fun b qs h => ?_⟩, gx⟩
  · by_cases l : Lent ρ σ as q
    · rw [off_in l] at h
      cases h
    · rw [off_out l] at h
      exact po.sub q o h
  · obtain ⟨v, ev, hh⟩ := R.slot i a h
    refine ⟨v, ev, ?_⟩
    cases ho : a.isOwn with
    | false => exact hh.still gx ho
    | true =>
      obtain ⟨q, rfl, gq, st⟩ := hh.own ho
      refine Hold.of_own ho (gone gq st.some) ?_
      by_cases hq : q ∈ potPs bs vs
      · obtain ⟨i', b, h1, h2⟩ := pot hq
        have ei : i = i' := Classical.byContradiction fun ne => R.apart i i' a _ _ ne h h1 ho rfl ev h2
        subst ei
        rw [h] at h1
        cases h1
        exact po.pots q hq
      · exact st.mono gx (po.but.keep hq st.some st.mut)
  · by_cases l : Lent ρ σ as b
    · rw [off_in l] at h
      cases h
    · rw [off_out l] at h
      rcases po.new b o h with y | y
      · rw [lend_out l] at y
        exact R.new b o y
      · exact .inr (R.h0 y)
  · obtain ⟨i, c, e1, e2⟩ := pot hq
    rcases R.mine i _ b e1 rfl e2 with y | y
    · exact .inl y.2
    · exact .inr y.2
  · by_cases z : q ∈ potPs bs vs
    · exact po.pots q z
    · exact pot_at (R.live q hq) (po.but.keep z (pot_some (R.live q hq)) (pot_mut (R.live q hq)))
  · obtain ⟨h1, h2, h3⟩ := R.frm b o h
    refine ⟨po.but.but b o (fun hq => ?_) h1 (fun qs e => R.fno b qs (by rw [h, e])), gone h2 (by rw [h1]; exact nofun), h3⟩
    obtain ⟨i, c, e1, e2⟩ := pot hq
    exact h3 i _ e1 rfl e2
  · by_cases l : Lent ρ σ as b
    · rw [off_in l] at h
      cases h
    · rw [off_out l] at h
      exact po.gno b qs h
theorem lend_gno {K : PySem.W.Frag} {E : Ent} {ρ : S} {G H : Hp} {σ : L2.St} {as : List AV} (R : Rel K E ρ G σ H) : ∀ b qs, lend (Lent ρ σ as) G H b ≠ some (.tbl qs) := fun b qs h => by
  by_cases l : Lent ρ σ as b
  · obtain ⟨i, c, d, _, _, _, _, st⟩ := l.own R
    rw [lend_in l] at h
    exact (show Stands K G H b (.own false d) from st).mut.1 qs h
  · rw [lend_out l] at h
    exact R.gno b qs h
theorem ref_call {W : WX} {E : Ent} {ρ : S} {G : Hp} {σ : L2.St} {H : Hp} {Q : VK} {kk : KE} {xx : KX} {as : List AV} {vs : List V} (R1 : Rel X.K E ρ G σ H) (lx : LkX X.K E xx W) (lk : LkE X.K E G σ kk Q) (q1 : Paired (fun a v => a.isOwn = false ∧ Res X.K E ρ G σ H a v) as vs)
    (h1 : argK ρ as fun bs w => (bs.filter AV.isOwn).length ≤ 1 ∧ (bs.length = n ∧ F bs (fun r => (w = false ∨ flAV r = true) ∧ kk r ρ) (fun c => (w = false ∨ flX c = true) ∧ xx c ρ))) : spT X.K n F vs H Q (WE W σ) := by
  have own := fun (q : Addr) (z : Lent ρ σ as q) => z
  obtain ⟨bs, w, p1, p2, p3, p4, one, hl, h1⟩ := argK_of R1 (Lent ρ σ as) own (fun q z => by obtain ⟨i, b, d, _, z2, z3⟩ := z; exact ⟨i, b, d, z2, z3⟩) (lend_ex R1) q1 h1
  refine ⟨lend (Lent ρ σ as) G H, bs, _, _, hl, lend_sub R1, ⟨p1, p2, (fun i j a b v n h1 h2 o1 o2 _ _ => one_own one i j a b n h1 h2 o1 o2), lend_gno R1⟩, h1, fun r G' v H' po rr hk => ?_, fun c G' dd H' po xr hk => ?_⟩
  · obtain ⟨R2, e2⟩ := after_call R1 p3 p2 po
    refine lk r ρ _ v H' e2 R2 ?_ hk.2
    have nt : ∀ q xs, Lent ρ σ as q → ¬ Rd G' q (.tup xs) := fun q xs l z => by
      obtain ⟨i, b, d, _, _, _, g1, st⟩ := l.own R1
      have hz : (∃ ys, H q = some (.lst ys)) ∨ ∃ ys, H q = some (.dK ys) := by
        cases d with
        | list ds => obtain ⟨xs, a1, _⟩ := st; exact .inl ⟨_, a1⟩
        | dict ds => obtain ⟨xs, a1, _⟩ := st; exact .inr ⟨_, a1⟩
        | _ => exact st.elim
      rcases hz with ⟨ys, ho⟩ | ⟨ys, ho⟩
      · have g := po.grow q _ ((lend_in l).trans ho)
        rcases z with z | ⟨_, z⟩ <;> (rw [g] at z; cases z)
      · have g := po.grow q _ ((lend_in l).trans ho)
        rcases z with z | ⟨_, z⟩ <;> (rw [g] at z; cases z)
    have same : (∀ q, ¬ Lent ρ σ as q) → keepOff (Lent ρ σ as) G' = G' := fun no => funext fun q => off_out (no q)
    rcases rr with ⟨no, hh⟩ | ⟨yo, np, q, rfl, gq, st, nq⟩
    · refine .inr (.inl ⟨no, ?_⟩)
      rcases hk.1 with hw | fl
      · rw [same (p4 hw)]
        exact hh
      · cases r with
        | dat d => exact tup_off nt hh fl
        | raw u => exact hh
        | own b d => cases no
        | _ => cases fl
    · refine .inr (.inr ⟨yo, np, q, rfl, ?_, ?_, ⟨R1.h0 nq, R1.f0 nq⟩, R1.loose nq⟩)
      · by_cases l : Lent ρ σ as q
        · exact off_in l
        · rw [off_out l]
          exact gq
      · rcases hk.1 with hw | fl
        · rw [same (p4 hw)]
          exact st
        · cases r with
          | own b d =>
            cases d with
            | list ds => obtain ⟨xs, a1, a2⟩ := (show Own X.K G' H' q (.list ds) from st); exact ⟨xs, a1, tups_off nt a2 fl⟩
            | _ => cases fl
          | dat d => cases yo
          | raw u => cases yo
          | _ => cases fl
  · obtain ⟨R2, e2⟩ := after_call R1 p3 p2 po
    refine lx c ρ _ σ dd H' R2 ?_ hk.2
    obtain ⟨ws, g, fl⟩ := xr
    have nl : ¬ Lent ρ σ as dd := fun l => by
      obtain ⟨i, b, d, _, _, _, g1, st⟩ := l.own R1
      have hz : ∃ o, H dd = some o ∧ ∀ u, o ≠ .xd u := by
        cases d with
        | list ds => obtain ⟨xs, a1, _⟩ := st; exact ⟨_, a1, nofun⟩
        | dict ds => obtain ⟨xs, a1, _⟩ := st; exact ⟨_, a1, nofun⟩
        | _ => exact st.elim
      obtain ⟨o, ho, ne⟩ := hz
      have := po.grow dd o ((lend_in l).trans ho)
      rw [g] at this
      exact ne _ (Option.some.inj this).symm
    refine ⟨ws, (off_out nl).trans g, ?_⟩
    rcases hk.1 with hw | fx
    · rw [show keepOff (Lent ρ σ as) G' = G' from funext fun q => off_out (p4 hw q)]
      exact fl
    · exact flds_any fl fx
/-- a def in which nothing is shown -/
theorem xe_callO (Fn : FnOk X.prog X.w X.K X.mg X.base (CXL X.prog X.w X.mg) k f fd ps (spT X.K n F)) (hr : Room k X.A) (hg : Gl X x) (hm : X.mg x = some (.ref f)) (hk : PySem.W.keepIn X.K (.ref f) = true) (hb : Binds X.K fd ps [])
    (ha : TrA X (e :: es) fr) (hdb : (x == ("__debug__" : Str)) = false := by decide) (he : starEach (e :: es) X.env = (false, eval e X.env) :: starEach es X.env := by rfl) (hpl : (backTo pos (starEach es X.env)).any (·.1) = false := by rfl) :
    TrE X (.Call (.Name x p) (e :: es) [] pos) (fCall n F fr) := fun W E ρ G σ H Q k x tk R lx lk hf pins s I =>
  (pe_callS Fn hr hg hm hk hb (fun σ => passT tk.1 σ) pa_w hdb he hpl).run pins s σ H Q I (ha W E ρ G σ H _ _ x tk R lx (fun as ρ1 G1 vs H1 e1 R1 q1 h1 => ref_call R1 lx (lk.up e1) q1 h1) hf)
end
end Tr
set_option Elab.async false
set_option linter.all false
set_option maxRecDepth 100000
namespace Tr
open PySem PySem.Spec PyProof.Rows L2 Evl Kc Kz Kx
section
variable {K : PySem.W.Frag} {mg : Str → Option Value} {P : Program} {base : Heap} {w : World}
theorem fnTo {nm qual : Str} {st : Stmt} {f : Addr} {fd : FuncData} {N ps : List Str} {k : Nat} {F : FD} {fb : FS} (Fn : Fun K nm qual st f fd) (S : FnScope N ps (defScope st))
    (body : ∀ (cdv : Value) (A : Around) (outer : List Env) (s : Shared) (H : Hp) (E : XK), Room k (A.deeper (envOfC qual (defScope st) s.heap.objs.size f cdv)) → TrB (cxOf (CXL P w mg) P w K mg base N qual (defScope st) f cdv A outer s H E) (defBody st) fb)
    (imp : ∀ as k x, as.length = ps.length → F as k x → fb (start0 N.length as) { nx := fun _ => k (.dat .none), rt := fun a ρ => rtK a ρ k } fun c _ => x c) :
    FnOk P w K mg base (CXL P w mg) (k + 1) f fd ps (spT K ps.length F) := by
  have pln : ps.length ≤ N.length := by
    have := congrArg List.length S.pre
    rw [List.length_take] at this
    omega
  obtain ⟨oc, od, kV, doc, pm, an, cdv, ct, osl, rfl, lk, cin⟩ := Fn.ex
  refine fn_of lk cin S (fun vs H Q E h => ?_) fun A outer s H vs Q E room want => ⟨_, pb_w, ?_⟩
  · obtain ⟨G, as, k, x, h1, _, h2, _⟩ := h
    rw [← h1]
    exact (Paired.length h2.hold).symm
  · obtain ⟨G, as, k, x, h1, h2, h3, h4, h5, h6⟩ := want
    have vl : vs.length ≤ N.length := by
      rw [← Paired.length h3.hold, h1]
      exact pln
    refine body cdv A outer s H E room (fun cls d _ H => E cls d H) ⟨vs, potPs as vs, H, G, fun _ => none⟩ _ G _ H _ { nx := fun _ => k (.dat .none), rt := fun a ρ => rtK a ρ k } (fun c _ => x c) ⟨tkl_of rfl rfl rfl rfl, fun _ _ _ _ t => t⟩ (rel_start h2 h3 vl) (fun c ρ' G' σ' dd H' R q hx => ?_) ⟨fun ρ' G' σ' H' _ R hn => ?_, fun a ρ' G' σ' v H' _ R q hr => ?_, fun ρ' G' σ' H' _ _ z => z.elim, fun ρ' G' σ' H' _ _ z => z.elim⟩ (imp as k x h1 h4)
    · exact h6 c G' dd H' R.post q hx
    · exact h5 (.dat .none) G' .non H' R.post (.inl ⟨rfl, .non⟩) hn
    · obtain ⟨b, rb, hk⟩ := rtK_of R q hr
      exact h5 b G' v H' R.post rb hk
/-- a promise told without errors serves where errors are known -/
theorem okCX {k : Nat} {f : Addr} {fd : FuncData} {ps : List Str} {sp : Sp} (F : FnOk P w K mg base CX0 k f fd ps sp) : FnOk P w K mg base (CXL P w mg) k f fd ps sp :=
  ⟨F.len, fun A outer s H args us vs Q E r e b v h => codeAny_mono (F.run A outer s H args us vs Q E r e b v h) fun z s' got => by
    cases z with
    | error u => exact (show False from got).elim
    | ok fl => cases fl <;> exact got⟩
/-- the law itself lets nothing out -/
theorem calmG {k : Nat} {f : Addr} {fd : FuncData} {ps : List Str} {sp : Sp} (F : FnG P w K mg base (CXL P w mg) k f fd ps sp) : FnG P w K mg base CX0 k f fd ps (fun vs H Q _ => sp vs H Q fun _ _ _ => False) :=
  ⟨fun vs H Q E h => F.many _ _ _ _ h, fun A outer s H args us vs Q E g r e b v h => codeAny_mono (F.goes A outer s H args us vs Q _ g r e b v h) fun z s' got => by
    cases z with
    | error u =>
      exact (cxl_no (show CXL P w mg outer H s (fun _ _ _ => False) u s' from got)).elim
    | ok fl => cases fl <;> exact got⟩
end
def YM (K : PySem.W.Frag) (r : V → List V → Hp → VK → Prop) (g : List D → List D → (D → List D → Prop) → Prop) : Prop := ∀ (G H : Hp) (p : Addr) (xs : List V) (ds : List D) (vs : List V) (es : List D) (Q : VK) (k : D → List D → Prop), H p = some (.lst xs) → Rps K G xs ds → Rps K G vs es → g ds es k →
  (∀ v d xs' ds', Rp K G v d → Rps K G xs' ds' → k d ds' → Q v (upd H p (.lst xs'))) → r (.ref p) vs H Q
def ownL (ρ : S) (i : Nat) (k : Bool → List D → Prop) : Prop :=
  match ρ[i]? with
  | some (some (.own b (.list ds))) => k b ds
  | _ => False
theorem ownL_of {ρ : S} {i : Nat} {k : Bool → List D → Prop} (h : ownL ρ i k) : ∃ b ds, ρ[i]? = some (some (.own b (.list ds))) ∧ k b ds := by
  unfold ownL at h
  split at h
  · exact ⟨_, _, by assumption, h⟩
  · exact h.elim
def fMut (i : Nat) (g : List D → List D → (D → List D → Prop) → Prop) (fr : FA) : FE := fun ρ k x => ownL ρ i fun _ _ => fr ρ (fun as ρ1 => dats as fun es => ownL ρ1 i fun b ds => b = false ∧ g ds es fun d ds' => k (.dat d) (ρ1.set i (some (.own false (.list ds'))))) x
section
variable {X : Cx} {e o : Expr} {es : List Expr} {fr : FA} {fa fb : FE} {n : Str} {apos cpos pos p0 : Pos} {i : Nat}
theorem own_at {K : PySem.W.Frag} {E : Ent} {ρ : S} {G H : Hp} {σ : L2.St} {b : Bool} {ds : List D} (R : Rel K E ρ G σ H) (h : ρ[i]? = some (some (.own b (.list ds)))) : ∃ p xs, σ[i]? = some (some (.ref p)) ∧ H p = some (.lst xs) ∧ Rps K G xs ds := by
  obtain ⟨v, e, hh⟩ := R.slot i _ h
  obtain ⟨p, rfl, _, xs, e1, e2⟩ := hh
  exact ⟨p, xs, e, e1, e2⟩
theorem ref_mut {r : V → List V → Hp → VK → Prop} {g : List D → List D → (D → List D → Prop) → Prop} (y : YM X.K r g) {t : TA} (ha : RefA X t fr) : RefE X (tBM X.K "list" r (tVar i) t) (fMut i g fr) := fun W E ρ G σ H Q k x tk R lx lk hf => by
  obtain ⟨b0, ds0, h0, hf⟩ := ownL_of hf
  obtain ⟨p, xs, s0, e1, _⟩ := own_at R h0
  refine ⟨_, s0, .inl ⟨rfl, xs, .inl (.inl e1)⟩, ha W E ρ G σ H _ _ x tk R lx (fun as ρ1 G1 vs H1 g1 R1 q1 h1 => ?_) hf⟩
  obtain ⟨es, rp, h1⟩ := dats_rps q1 h1
  obtain ⟨b, ds, h2, bf, h1⟩ := ownL_of h1
  subst bf
  obtain ⟨q, ys, s1, f1, f2⟩ := own_at R1 h2
  rw [s0] at s1
  cases s1
  refine y G1 H1 p ys ds vs es _ _ f1 f2 rp h1 fun v d xs' ds' rv rx hk => ?_
  exact lk _ _ G1 v _ g1 (R1.mut (a' := .own false (.list ds')) h2 rfl s0 rfl rfl (fun z => nomatch z) ⟨xs', upd_same, rx⟩) (.dat rv) hk
def mAppend : List D → List D → (D → List D → Prop) → Prop := fun ds es k =>
  match es with
  | [d] => ds.length < sizeLine ∧ k .none (ds ++ [d])
  | _ => False
def mPopAt : List D → List D → (D → List D → Prop) → Prop := fun ds es k =>
  match es with
  | [.int j] => ∃ (n : Nat) (d : D), j = (n : Nat) ∧ n < 1000000 ∧ ds[n]? = some d ∧ k d (ds.eraseIdx n)
  | _ => False
theorem y_append {K : PySem.W.Frag} : YM K rAppend mAppend := fun G H p xs ds vs es Q k e r s h lk => by
  cases s with
  | nil => exact h.elim
  | cons a t =>
    cases t with
    | cons _ _ => exact h.elim
    | nil => exact ⟨p, xs, _, rfl, rfl, e, by rw [r.len]; exact h.1, lk _ _ _ _ .non (r.app (.cons a .nil)) h.2⟩
theorem y_popAt {K : PySem.W.Frag} : YM K rPopAt mPopAt := fun G H p xs ds vs es Q k e r s h lk => by
  cases s with
  | nil => exact h.elim
  | cons a t =>
    cases t with
    | cons _ _ => cases a <;> exact h.elim
    | nil =>
      cases a <;> first | exact h.elim | skip
      obtain ⟨n, d, rfl, hz, hd, hk⟩ := h
      obtain ⟨v, hv, rv⟩ := r.get hd
      have hn := (List.getElem?_eq_some_iff.mp hv).1
      refine ⟨p, xs, _, n, v, rfl, rfl, e, by omega, by omega, ?_, hv, lk _ _ _ _ rv (r.eraseIdx n) hk⟩
      rw [seqIndex_of (by omega) (by omega)]
      rfl
theorem xe_append (i : Nat) (pv : PE X o (tVar i)) (ha : TrA X [e] fr) (hbase : attributeBase o "append" X.env (eval o X.env) = eval o X.env := by rfl)
    (hfew : ((backTo cpos (starEach [e] X.env)).all (fun x => !x.1) && (backToKw cpos (keywordEach [] X.env)).all (fun x => x.1.isSome) && decide ([e].length + ([] : List Keyword).length + (if ([] : List Keyword).isEmpty then 0 else 1) < 30)) = true := by rfl)
    (hs : starEach [e] X.env = (false, eval e X.env) :: starEach [] X.env := by rfl) (hline : (apos.endLine == cpos.line) = true := by rfl) (hplain : (backTo cpos (starEach [] X.env)).any (·.1) = false := by rfl) :
    TrE X (.Call (.Attribute o "append" apos) [e] [] cpos) (fMut i mAppend fr) := .of (pe_bm PySem.F.plainAttrs_list PySem.F.slot_list_append PySem.F.type_list_append mt_append pv pa_w hbase hfew hline hs hplain) (ref_mut y_append ha)
theorem xe_popAt (i : Nat) (pv : PE X o (tVar i)) (ha : TrA X [e] fr) (hbase : attributeBase o "pop" X.env (eval o X.env) = eval o X.env := by rfl)
    (hfew : ((backTo cpos (starEach [e] X.env)).all (fun x => !x.1) && (backToKw cpos (keywordEach [] X.env)).all (fun x => x.1.isSome) && decide ([e].length + ([] : List Keyword).length + (if ([] : List Keyword).isEmpty then 0 else 1) < 30)) = true := by rfl)
    (hs : starEach [e] X.env = (false, eval e X.env) :: starEach [] X.env := by rfl) (hline : (apos.endLine == cpos.line) = true := by rfl) (hplain : (backTo cpos (starEach [] X.env)).any (·.1) = false := by rfl) :
    TrE X (.Call (.Attribute o "pop" apos) [e] [] cpos) (fMut i mPopAt fr) := .of (pe_bm PySem.F.plainAttrs_list PySem.F.slot_list_pop PySem.F.type_list_pop mt_popAt pv pa_w hbase hfew hline hs hplain) (ref_mut y_popAt ha)
def fFld (C : Addr) (f : Str) (fa : FE) : FE := fun ρ k x => fa ρ (fun a ρ1 => match a with | .obj C' fs => C' = C ∧ ∃ d, fs.lookup f = some d ∧ k (.dat d) ρ1 | _ => False) x
theorem flds_look {K : PySem.W.Frag} {G : Hp} {f : Str} {d : D} : ∀ {vs : List (Str × V)} {fs : List (Str × D)}, Flds K G vs fs → fs.lookup f = some d → ∃ v, vs.lookup f = some v ∧ Rp K G v d
  | _, _, .nil, e => by cases e
  | (a, v) :: vs, (b, c) :: fs, .cons h t, e => by
    have h1 : a = b := h.1
    subst h1
    rw [List.lookup_cons] at e ⊢
    cases q : f == a with
    | true => rw [q] at e; cases e; exact ⟨v, rfl, h.2⟩
    | false => rw [q] at e; exact flds_look t e
theorem xe_fld {C : Addr} {f : Str} (c : Cls X.K C) (na : NoAttr X.K C f) (h : TrE X e fa) (hb : attributeBase e f X.env (eval e X.env) = eval e X.env := by rfl) : TrE X (.Attribute e f pos) (fFld C f fa) := .of (pe_fld pe_w hb) fun W E ρ G σ H Q k x tk R lx lk hf => by
  refine h W E ρ G σ H _ _ x tk R lx (fun a ρ1 G1 v H1 e1 R1 q1 h1 => ?_) hf
  cases a <;> first | exact h1.elim | skip
  obtain ⟨rfl, d, hl, hk⟩ := h1
  rcases q1 with ⟨i, z, _⟩ | ⟨_, hh⟩ | ⟨z, _⟩
  · cases z
  · obtain ⟨b, dx, vs, rfl, g, fl⟩ := hh
    obtain ⟨u, hu, ru⟩ := flds_look fl hl
    exact ⟨b, _, dx, vs, u, rfl, R1.sub _ _ g, c, na, hu, lk _ ρ1 G1 u H1 e1 R1 (.dat ru) hk⟩
  · cases z
def sPar (i j : Nat) (fr : FA) : FS := fun ρ N x => fr ρ (fun as ρ1 => match as with | [a, b] => putK i a ρ1 fun ρ2 => putK j b ρ2 N.nx | _ => False) x
theorem ref_par {i j : Nat} {ta : TA} (h : RefA X ta fr) : RefS X (tPar i j ta) (sPar i j fr) := fun W E ρ G σ H M N x tk R lx lk hf => by
  refine h W E ρ G σ H _ _ x tk R lx (fun as ρ1 G1 vs H1 e1 R1 q1 h1 => ?_) hf
  match as, q1, h1 with
  | [a, b], .cons qa (.cons qb .nil), h1 =>
    obtain ⟨h1, n1, m1⟩ := putK_of h1
    obtain ⟨h2, n2, m2⟩ := putK_of h1
    have R2 := R1.putRes (i := i) qa.2 n1 m1
    refine ⟨_, _, rfl, lk.nx _ G1 _ H1 e1 (R2.putRes (i := j) ?_ n2 m2) h2⟩
    rcases qb.2 with ⟨m, z, _⟩ | ⟨no, hh⟩ | ⟨yo, _⟩
    · exact absurd z (m2 m)
    · exact .inr (.inl ⟨no, hh⟩)
    · rw [qb.1] at yo
      cases yo
end
end Tr
set_option Elab.async false
set_option linter.all false
set_option maxRecDepth 100000
namespace Tr
open PySem PySem.Spec PyProof.Rows L2 Evl Kc Kz Kx
/-- the built-ins' names are free -/
structure Blt (mg : Str → Option Value) : Prop where
  len : mg "len" = none
  isinstance : mg "isinstance" = none
  str : mg "str" = none
  int : mg "int" = none
  bool : mg "bool" = none
  list : mg "list" = none
  tuple : mg "tuple" = none
  dict : mg "dict" = none
  all : mg "all" = none
  any : mg "any" = none
  max : mg "max" = none
  min : mg "min" = none
  sum : mg "sum" = none
  abs : mg "abs" = none
  divmod : mg "divmod" = none
  range : mg "range" = none
  repr : mg "repr" = none
  zip : mg "zip" = none
  enumerate : mg "enumerate" = none
  sorted : mg "sorted" = none
/-- a def that keeps its promise by trees; nothing is shown in it -/
structure DefO (P : Program) (w : World) (K : PySem.W.Frag) (mg : Str → Option Value) (base : Heap) (nm : Str) (ps : List Str) (l : Nat) (F : FD) : Prop where
  ex : ∃ f fd, FnOk P w K mg base (CXL P w mg) l f fd ps (spT K ps.length F) ∧ mg nm = some (.ref f) ∧ PySem.W.keepIn K (.ref f) = true ∧ Binds K fd ps []
abbrev In (X : Cx) (P : Program) (w : World) (K : PySem.W.Frag) (mg : Str → Option Value) (base : Heap) : Prop := X.prog = P ∧ X.w = w ∧ X.K = K ∧ X.mg = mg ∧ X.base = base
section
variable {X : Cx} {P : Program} {w : World} {K : PySem.W.Frag} {mg : Str → Option Value} {base : Heap} {nm : Str} {ps : List Str} {l k : Nat} {F : FD} {e : Expr} {es : List Expr} {fr : FA} {p pos : Pos}
theorem xe_callD (d : DefO P w K mg base nm ps l F) (i : In X P w K mg base) (hr : Room k X.A) (hk : l ≤ k) (hg : Gl X nm) (ha : TrA X (e :: es) fr) (hdb : (nm == ("__debug__" : Str)) = false := by decide)
    (he : starEach (e :: es) X.env = (false, eval e X.env) :: starEach es X.env := by rfl) (hpl : (backTo pos (starEach es X.env)).any (·.1) = false := by rfl) : TrE X (.Call (.Name nm p) (e :: es) [] pos) (fCall ps.length F fr) := by
  obtain ⟨rfl, rfl, rfl, rfl, rfl⟩ := i
  obtain ⟨f, fd, ok, m, kp, b⟩ := d.ex
  exact xe_callO ok (hr.mono hk) hg m kp b ha hdb he hpl
theorem ts_par {i j : Nat} {x y : Str} {a b : Expr} {px py pt : Pos} {kt k2 pt2} (ha : TrA X [a, b] fr) (hc : X.calm = true) (hN : X.N.Nodup) (hi : X.N[i]? = some x) (hj : X.N[j]? = some y) (hij : i ≠ j)
    (hx : X.env.scope.names.lookup x = some .local) (hy : X.env.scope.names.lookup y = some .local)
    (w1 : swappedStores [.Tuple [.Name x px, .Name y py] kt pt] (.Tuple [a, b] k2 pt2) X.env = pure (some [x, y]))
    (w2 : swapsWithSole [.Tuple [.Name x px, .Name y py] kt pt] (.Tuple [a, b] k2 pt2) pos.line X.env = pure false := by rfl) :
    TrS X (.Assign [.Tuple [.Name x px, .Name y py] kt pt] (.Tuple [a, b] k2 pt2) pos) (sPar i j fr) := .of (ps_par hc hN hi hj hij hx hy pa_w w1 w2) (ref_par ha)
end
section
variable {K : PySem.W.Frag} {E : Ent} {ρ : S} {G H H' : Hp} {σ : L2.St}
/-- new things that stay -/
theorem Rel.adopt (R : Rel K E ρ G σ H) (s : Ex H H') (A : List Addr) (hA : ∀ t ∈ A, H t = none) (hT : ∀ t ∈ A, ∀ qs, H' t ≠ some (.tbl qs)) : Rel K E ρ (fun b => if b ∈ A then H' b else G b) σ H' ∧ Ex G (fun b => if b ∈ A then H' b else G b) := by
  have out : ∀ {b : Addr}, H b ≠ none → b ∉ A := fun h z => h (hA _ z)
  have gx : Ex G (fun b => if b ∈ A then H' b else G b) := fun b o h => by
    show (if b ∈ A then H' b else G b) = some o
    rw [if_neg (out (by rw [R.sub b o h]; exact nofun))]
    exact h
  have same : ∀ {b : Addr}, H b ≠ none → H' b = H b := fun {b} h => by
    cases e : H b with
    | none => exact absurd e h
    | some o => exact s b o e
  refine ⟨⟨fun b o h => ?_, R.len, fun i a h => ?_, R.apart, R.mine, R.par, R.grow.trans gx, fun b o h => ?_, R.but.same s, fun p hp => pot_at (R.live p hp) (same (pot_some (R.live p hp))), R.h0p, fun b o h => ?_, R.fno, fun b qs h => ?_⟩, gx⟩
  · have h : (if b ∈ A then H' b else G b) = some o := h
    split at h
    · exact h
    · exact s b o (R.sub b o h)
  · obtain ⟨v, ev, hh⟩ := R.slot i a h
    refine ⟨v, ev, ?_⟩
    cases ho : a.isOwn with
    | false => exact hh.still gx ho
    | true =>
      obtain ⟨p, rfl, gp, st⟩ := hh.own ho
      refine Hold.of_own ho ?_ (st.mono gx (same st.some))
      show (if p ∈ A then H' p else G p) = none
      rw [if_neg (out st.some)]
      exact gp
  · have h : (if b ∈ A then H' b else G b) = some o := h
    split at h
    · exact .inr (R.h0 (hA b (by assumption)))
    · exact R.new b o h
  · obtain ⟨h1, h2, h3⟩ := R.frm b o h
    refine ⟨s b o h1, ?_, h3⟩
    show (if b ∈ A then H' b else G b) = none
    rw [if_neg (out (by rw [h1]; exact nofun))]
    exact h2
  · have h : (if b ∈ A then H' b else G b) = some (.tbl qs) := h
    split at h
    · exact hT b (by assumption) qs h
    · exact R.gno b qs h
end
section
variable {X : Cx} {fr : FA} {fa : FE} {e e1 e2 o : Expr} {es : List Expr} {p p2 pos pos2 apos cpos : Pos}
def fLZ (fr : FA) : FE := fun ρ k x => fr ρ (fun as ρ1 => vws ρ1 as fun ds => match ds with | [.list xs, .list ys] => k (.own false (.list (zipD xs ys))) ρ1 | _ => False) x
theorem xe_listZip (hc : X.calm = true) (hg : Gl X "list") (hm : X.mg "list" = none) (hg2 : Gl X "zip") (hm2 : X.mg "zip" = none) (ha : TrA X [e1, e2] fr)
    (hs2 : starEach [e1, e2] X.env = (false, eval e1 X.env) :: starEach [e2] X.env := by rfl) (hpl : (backTo pos2 (starEach [e2] X.env)).any (·.1) = false := by rfl)
    (hs : starEach [.Call (.Name "zip" p2) [e1, e2] [] pos2] X.env = (false, eval (.Call (.Name "zip" p2) [e1, e2] [] pos2) X.env) :: starEach [] X.env := by rfl) :
    TrE X (.Call (.Name "list" p) [.Call (.Name "zip" p2) [e1, e2] [] pos2] [] pos) (fLZ fr) := .of (pe_listZip hc hg hm hg2 hm2 pa_w hs2 hpl hs) fun W E ρ G σ H Q k x tk R lx lk hf => by
  refine ha W E ρ G σ H _ _ x tk R lx (fun as ρ1 G1 vs H1 g1 R1 q1 h1 => ?_) hf
  obtain ⟨ds, pr, h1⟩ := vws_vw R1 q1 h1
  split at h1
  · rename_i xs ys
    obtain ⟨v, u, rfl, hv, hu⟩ := pair2 pr
    obtain ⟨a, xv, rfl, ea, ra⟩ := hv.lsts R1.sub
    obtain ⟨b, yv, rfl, eb, rb⟩ := hu.lsts R1.sub
    refine ⟨a, b, xv, yv, rfl, .inl (.inl ea), .inl (.inl eb), fun H' l ts s nl nt el ln at_ => ?_⟩
    obtain ⟨R2, g2⟩ := R1.adopt (H' := H') s ts nt fun t ht qs z => by
      obtain ⟨j, hj⟩ := List.mem_iff_getElem?.mp ht
      obtain ⟨x, y, _, _, e⟩ := at_ j t hj
      rw [z] at e
      cases e
    have nlt : l ∉ ts := fun z => by
      obtain ⟨j, hj⟩ := List.mem_iff_getElem?.mp z
      obtain ⟨x, y, _, _, e⟩ := at_ j l hj
      rw [el] at e
      cases e
    refine lk (.own false (.list (zipD xs ys))) ρ1 _ _ H' (g1.trans g2) R2 (.inr (.inr ⟨rfl, rfl, l, rfl, ?_, ⟨_, el, ?_⟩, ⟨R1.h0 nl, R1.f0 nl⟩, R1.loose nl⟩)) h1
    · show (if l ∈ ts then H' l else G1 l) = none
      rw [if_neg nlt]
      exact R1.g0 nl
    · -- the pairs
      have key : ∀ (n : Nat) (ts : List Addr) (xv yv : List V) (xs ys : List D) (G : Hp), Rps X.K G xv xs → Rps X.K G yv ys → ts.length = min xv.length yv.length → (∀ (j : Nat) (t : Addr), ts[j]? = some t → ∃ x y, xv[j]? = some x ∧ yv[j]? = some y ∧ G t = some (.tup [x, y])) → Rps X.K G (ts.map V.ref) (zipD xs ys) := fun _ ts => by
        induction ts with
        | nil =>
          intro xv yv xs ys G r1 r2 l _
          cases r1 with
          | nil => exact .nil
          | cons a t =>
            cases r2 with
            | nil => exact .nil
            | cons _ _ =>
              simp only [List.length_nil, List.length_cons] at l
              omega
        | cons t ts ih =>
          intro xv yv xs ys G r1 r2 l h
          obtain ⟨x, y, ex, ey, et⟩ := h 0 t rfl
          cases r1 with
          | nil => cases ex
          | cons a r1 =>
            cases r2 with
            | nil => cases ey
            | cons b r2 =>
              cases Option.some.inj ex
              cases Option.some.inj ey
              refine .cons (.tup (.inl (.inl et)) (.cons a (.cons b .nil))) (ih _ _ _ _ G r1 r2 ?_ fun j t hj => h (j + 1) t hj)
              simp only [List.length_cons] at l
              omega
      refine key 0 ts xv yv xs ys _ (ra.mono g2) (rb.mono g2) ln fun j t hj => ?_
      obtain ⟨x, y, ex, ey, et⟩ := at_ j t hj
      refine ⟨x, y, ex, ey, ?_⟩
      show (if t ∈ ts then H' t else G1 t) = _
      rw [if_pos (List.mem_of_getElem? hj)]
      exact et
  · exact h1.elim
def fMeth (g : D → List D → (Out → Prop) → Prop) (fa : FE) (fr : FA) : FE := fun ρ k x => fa ρ (fun a ρ1 => fz a fun a' => datK a' fun d => (∃ z, d = .str z) ∧ fr ρ1 (fun as ρ2 => vws ρ2 as fun ds => g d ds fun o => k o.av ρ2) x) x
theorem ref_strM {r : V → List V → Hp → VK → Prop} {g : D → List D → (Out → Prop) → Prop} (y : ∀ G H z vs ds, Ex G H → Paired (Vw X.K G H) vs ds → Yields X.K G H (r (.str z) vs) (g (.str z) ds)) {to : TE} {t : TA} (ho : RefE X to fa) (ha : RefA X t fr) :
    RefE X (tBM X.K "str" r to t) (fMeth g fa fr) := fun W E ρ G σ H Q k x tk R lx lk hf => by
  refine ho W E ρ G σ H _ _ x tk R lx (fun a ρ1 G1 v H1 e1 R1 q1 h1 => ?_) hf
  obtain ⟨a', G2, no, e2, R2, q2, h1⟩ := q1.fz R1 h1
  obtain ⟨d, rd, ⟨z, hz⟩, h1⟩ := q2.datK h1
  subst hz
  cases rd
  refine ⟨rfl, ha W E ρ1 G2 σ H1 _ _ x tk R2 lx (fun as ρ3 G3 vs H3 e3 R3 q3 h3 => ?_) h1⟩
  obtain ⟨ds, pr, h3⟩ := vws_vw R3 q3 h3
  exact y G3 H3 z vs ds R3.sub pr Q _ (outLk R3 (lk.up ((e1.trans e2).trans e3))) h3
def gJoin : D → List D → (Out → Prop) → Prop := fun d es k =>
  match d, es with
  | .str a, [.list ds] => strsK ds fun ys => (ys.map (·.length)).sum + ys.length * a.length ≤ 16777216 ∧ k (.val (.str (Txt.join a ys)))
  | _, _ => False
theorem xe_join (ho : TrE X o fa) (ha : TrA X [e] fr) (hbase : attributeBase o "join" X.env (eval o X.env) = eval o X.env := by rfl)
    (hfew : ((backTo cpos (starEach [e] X.env)).all (fun x => !x.1) && (backToKw cpos (keywordEach [] X.env)).all (fun x => x.1.isSome) && decide ([e].length + ([] : List Keyword).length + (if ([] : List Keyword).isEmpty then 0 else 1) < 30)) = true := by rfl)
    (hs : starEach [e] X.env = (false, eval e X.env) :: starEach [] X.env := by rfl) (hline : (apos.endLine == cpos.line) = true := by rfl) (hplain : (backTo cpos (starEach [] X.env)).any (·.1) = false := by rfl) :
    TrE X (.Call (.Attribute o "join" apos) [e] [] cpos) (fMeth gJoin fa fr) := .of (pe_bm PySem.F.plainAttrs_str PySem.F.slot_str_join PySem.F.type_str_join mt_join pe_w pa_w hbase hfew hline hs hplain) (ref_strM (fun G H z vs ds s pr Q k o h => by
  match ds, pr, h with
  | [.list ds], pr, h =>
    obtain ⟨v, rfl, hv⟩ := pair1 pr
    obtain ⟨ys, rfl, h1, h2⟩ := strs_of h
    obtain ⟨q, xs, rfl, e1, r1⟩ := hv.lsts s
    exact ⟨z, q, ys, rfl, rfl, .inl (.inl (.inl (by rw [← r1.strs]; exact e1))), h1, o.val _ _ (.str _) h2⟩) ho ha)
end
def F_draw : FD := fun as k _ => ∃ m : Int, as = [.pot true, .dat (.int m)] ∧ 0 < m ∧ m < 1073741824 ∧ ∀ j : Int, 0 ≤ j → j < m → k (.dat (.int j))
def F_pot : FD := fun as k _ => ∃ (ns : List Int) (i : Nat), as = [.scr ns, .dat (.int i)] ∧ i < 100 ∧ k (.pot false)
theorem draw_of {K : PySem.W.Frag} {vs : List V} {H : Hp} {Q : VK} {EX : XK} (h : spT K 2 F_draw vs H Q EX) : ∃ (p : Addr) (m : Int), vs = [.ref p, .int m] ∧ Pot H p ∧ 0 < m ∧ m < 1073741824 ∧ ∀ H' d, But p H H' → Pot H' p → 0 ≤ d → d < m → Q (.int d) H' := by
  obtain ⟨G, as, k, x, _, s, ok, ⟨m, rfl, h1, h2, hk⟩, lk, _⟩ := h
  have hh := ok.hold
  cases hh with
  | cons a t =>
    cases t with
    | cons b t =>
      cases t
      obtain ⟨p, rfl, gp, st⟩ := a
      cases b
      refine ⟨p, m, rfl, st, h1, h2, fun H' d bt pt d0 d1 => lk (.dat (.int d)) G _ H' ⟨fun b o e => ?_, Ex.refl _, fun b o e => .inl e, kept_but bt (pot_mut st), fun q hq => ?_, ok.gno⟩ (.inl ⟨rfl, .int d⟩) (hk d d0 d1)⟩
      · exact bt b o (ne_of_none e gp) (s b o e)
      · cases List.mem_singleton.mp (show q ∈ [p] from hq)
        exact pt
theorem pot_of {K : PySem.W.Frag} {vs : List V} {H : Hp} {Q : VK} {EX : XK} (h : spT K 2 F_pot vs H Q EX) : ∃ (a : Addr) (ns : List Int) (k : Nat), vs = [.ref a, .int k] ∧ SqL K H a (ns.map V.int) ∧ k < 100 ∧ ∀ H' p, Same H H' → H p = none → Pot H' p → Q (.ref p) H' := by
  obtain ⟨G, as, k, x, _, s, ok, ⟨ns, i, rfl, h1, hk⟩, lk, _⟩ := h
  have hh := ok.hold
  cases hh with
  | cons a t =>
    cases t with
    | cons b t =>
      cases t
      obtain ⟨p, rfl, sq⟩ := a
      cases b
      refine ⟨p, ns, i, rfl, ex_l s sq, h1, fun H' q sm nq pt => lk (.pot false) G _ H' ⟨fun b o e => sm b o (s b o e), Ex.refl _, fun b o e => .inl e, kept_same sm, (fun q hq => nomatch (show q ∈ ([] : List Addr) from hq)), ok.gno⟩ (.inr ⟨rfl, rfl, q, rfl, ?_, pt, nq⟩) hk⟩
      cases e : G q with
      | none => rfl
      | some o =>
        rw [s q o e] at nq
        cases nq
end Tr
set_option Elab.async false
set_option linter.all false
set_option maxRecDepth 100000
namespace Tr
open PySem PySem.Spec PyProof.Rows L2 Evl Kc Kz Kx
theorem forF_by {g : FG} {fb : FS} {N : EndsT} {x : KX} (I : Nat → S → Prop) {ds : List D} (step : ∀ (i : Nat) (d : D) (ρ : S), ds[i]? = some d → I i ρ → ∀ C : S → Prop, (∀ ρ', I (i + 1) ρ' → C ρ') → g d ρ fun ρ1 => fb ρ1 { N with nx := C, ct := C, bk := N.nx } x)
    (done : ∀ ρ, I ds.length ρ → N.nx ρ) {ρ : S} (h : I 0 ρ) : forF g fb ds ρ N x := by
  have key : ∀ (n : Nat) (i : Nat) (ρ : S), i + n = ds.length → I i ρ → forF g fb (ds.drop i) ρ N x := fun n => by
    induction n with
    | zero =>
      intro i ρ e h
      rw [List.drop_of_length_le (by omega)]
      exact done ρ (by rw [← e]; exact h)
    | succ n ih =>
      intro i ρ e h
      have hi : i < ds.length := by omega
      rw [List.drop_eq_getElem_cons hi]
      exact step i ds[i] ρ (List.getElem?_eq_getElem hi) h _ fun ρ' h' => ih (i + 1) ρ' (by omega) h'
  exact key ds.length 0 ρ (by omega) h
theorem lcF_by {vs : List Nat} {g : FG} {ft : FT} {fe : FE} {k : List D → S → Prop} (I : Nat → List D → S → Prop) {ds : List D}
    (step : ∀ (i : Nat) (d : D) (acc : List D) (ρ : S), ds[i]? = some d → I i acc ρ → ∀ C : List D → S → Prop, (∀ acc' ρ', I (i + 1) acc' ρ' → C acc' ρ') →
      g d (wipeA ρ vs) fun ρ2 => ft ρ2 (fun b ρ3 => if b = true then fe ρ3 (fun a ρ4 => fz a fun a' => datK a' fun r => acc.length < sizeLine ∧ C (acc ++ [r]) (backA ρ vs ρ4)) noX else C acc (backA ρ vs ρ3)) noX)
    (done : ∀ acc ρ, I ds.length acc ρ → k acc ρ) {ρ : S} (h : I 0 [] ρ) : lcF vs g ft fe ds [] ρ k := by
  have key : ∀ (n : Nat) (i : Nat) (acc : List D) (ρ : S), i + n = ds.length → I i acc ρ → lcF vs g ft fe (ds.drop i) acc ρ k := fun n => by
    induction n with
    | zero =>
      intro i acc ρ e h
      rw [List.drop_of_length_le (by omega)]
      exact done acc ρ (by rw [← e]; exact h)
    | succ n ih =>
      intro i acc ρ e h
      have hi : i < ds.length := by omega
      rw [List.drop_eq_getElem_cons hi]
      exact step i ds[i] acc ρ (List.getElem?_eq_getElem hi) h _ fun acc' ρ' h' => ih (i + 1) acc' ρ' (by omega) h'
  exact key ds.length 0 [] ρ (by omega) h
theorem rngD_get {lo : Int} {n i : Nat} {d : D} (h : (rngD lo n)[i]? = some d) : i < n ∧ d = .int (lo + (i : Nat)) := by
  unfold rngD at h
  rw [List.getElem?_map] at h
  obtain ⟨j, hj, rfl⟩ := Option.map_eq_some_iff.mp h
  obtain ⟨hl, hj⟩ := List.getElem?_eq_some_iff.mp hj
  rw [List.getElem_range] at hj
  rw [List.length_range] at hl
  subst hj
  exact ⟨hl, rfl⟩
theorem rngD_len {lo : Int} {n : Nat} : (rngD lo n).length = n := by unfold rngD; rw [List.length_map, List.length_range]
theorem atI_get {α : Type} {xs : List α} {i : Int} (h0 : 0 ≤ i) (h1 : i < xs.length) : ∃ n v, i = (n : Nat) ∧ xs[n]? = some v ∧ atI xs i = some v := by
  obtain ⟨n, rfl⟩ : ∃ n : Nat, i = n := ⟨i.toNat, by omega⟩
  have hn : n < xs.length := by omega
  exact ⟨n, xs[n], rfl, List.getElem?_eq_getElem hn, atI_nat (List.getElem?_eq_getElem hn)⟩
end Tr
namespace Tr
open PySem PySem.Spec PyProof.Rows L2 Evl Kc Kz Kx
/-- a slot that may be given a new value -/
def Free (ρ : S) (i : Nat) : Prop := ∀ b, ρ[i]? = some (some b) → b.isPar = false
theorem put_mk {ρ : S} {i : Nat} {a : AV} {k : S → Prop} (f : Free ρ i) (np : a.isPar = false) (na : ∀ j, a ≠ .at j) (h : k (ρ.set i (some a))) : putK i a ρ k := by
  unfold putK
  split
  · rename_i e; cases f _ e
  · rename_i e; cases f _ e
  · cases a with
    | own b d => cases b <;> first | exact h | cases np
    | pot b => cases b <;> first | exact h | cases np
    | «at» j => exact absurd rfl (na j)
    | _ => exact h
theorem put_dat {ρ : S} {i : Nat} {d : D} {k : S → Prop} (f : Free ρ i) (h : k (ρ.set i (some (.dat d)))) : gN i d ρ k := put_mk f rfl (fun _ => nofun) h
end Tr
set_option Elab.async false
set_option linter.all false
set_option maxRecDepth 100000
set_option maxHeartbeats 1000000
namespace Zn
open PySem PySem.Spec PyProof.Rows
structure Col where
  it : Addr
  fp : List Addr
  n : Nat
  P : Nat → Value → Prop
  St : Nat → Heap → Prop
abbrev IsRow (h : Heap) (T : Addr) (xs : Array Value) : Prop := h.get? T = some { cls := .type "tuple", data := .seq xs }
/-- the cells of a zip lie apart -/
structure Apart (z TI TO : Addr) (cs : List Col) : Prop where
  tz : TI ≠ z
  oz : TO ≠ z
  io : TI ≠ TO
  it : ∀ c ∈ cs, TI ≠ c.it
  me : ∀ c ∈ cs, c.it ∈ c.fp
  zf : ∀ c ∈ cs, z ∉ c.fp
  tf : ∀ c ∈ cs, TO ∉ c.fp
  two : ∀ (j k : Nat) (c d : Col), j ≠ k → cs[j]? = some c → cs[k]? = some d → c.it ∉ d.fp
theorem loop {τ : Type} {f : Value × Nat → τ → Sem (ForInStep τ)} {b : τ} {M : Model} {A : Around} {E : Value → Shared → Prop} (J : Nat → Shared → Prop) : ∀ (vs : List Value) (k0 : Nat)
    (step : ∀ (k : Nat) (v : Value) (s : Shared), vs[k]? = some v → J (k0 + k) s → wpAny M A (f (v, k0 + k) b) (fun r s' => r = .yield b ∧ J (k0 + k + 1) s') E s) (s : Shared), J k0 s →
    wpAny M A (forIn (vs.zipIdx k0) b f) (fun r s' => r = b ∧ J (k0 + vs.length) s') E s
  | [], k0, _, s, h => by
    simp only [List.zipIdx_nil, List.forIn_nil]
    exact wpAny_pure ⟨rfl, h⟩
  | v :: vs, k0, step, s, h => by
    simp only [List.zipIdx_cons, List.forIn_cons]
    refine wpAny_bind (wpAny_mono (step 0 v s rfl h) (fun r s' q => ?_) fun _ _ q => q)
    obtain ⟨rfl, q⟩ := q
    have := loop (M := M) (A := A) (f := f) (b := b) (E := E) J vs (k0 + 1) (fun k v s e hj => ?_) s' q
    · rw [List.length_cons, show k0 + (vs.length + 1) = k0 + 1 + vs.length by omega]
      exact this
    · have st := step (k + 1) v s e (by rw [show k0 + (k + 1) = k0 + 1 + k by omega]; exact hj)
      rw [show k0 + (k + 1) = k0 + 1 + k by omega] at st
      exact st
section
variable {prog : Program} {w : World} {A : Around} {E : Value → Shared → Prop} {s : Shared} {z TI TO : Addr} {cs : List Col} {i : Nat}
/-- what holds ahead of the k-th draw of turn i; s0: the state at the turn's begin -/
def Now (z TI TO : Addr) (cs : List Col) (i : Nat) (s0 : Shared) (k : Nat) (s : Shared) : Prop :=
  ∃ (arr : Array Value) (h : Heap) (tk : Nat), s = { s0 with heap := h, toks := tk } ∧ arr.size = cs.length ∧ IsRow h TO arr ∧ IsZip h z TI TO .ellipsis ∧ h.objs.size = s0.heap.objs.size ∧
    (∀ (j : Nat) (c : Col), cs[j]? = some c → (j < k → i < c.n ∧ (∃ x, arr[j]? = some x ∧ c.P i x) ∧ c.St (i + 1) h) ∧ (k ≤ j → c.St i h)) ∧
    ∀ b o, b ≠ z → b ≠ TO → (∀ c ∈ cs, b ≠ c.it) → s0.heap.get? b = some o → h.get? b = some o
theorem next {Q : Value → Shared → Prop} (S : Apart z TI TO cs) (few : cs.length ≤ 1000) (ne : cs ≠ []) (D : ∀ c ∈ cs, Draws prog w A c.it c.fp c.n c.P c.St) (hz : IsZip s.heap z TI TO .none) (hTI : IsRow s.heap TI (cs.map fun c => Value.ref c.it).toArray)
    (a : Array Value) (ha : a.size = cs.length) (hTO : IsRow s.heap TO a) (st : ∀ c ∈ cs, c.St i s.heap) (le : ∀ c ∈ cs, i ≤ c.n)
    (hQ : (∀ c ∈ cs, i < c.n) → ∀ (arr : Array Value) h' tk, arr.size = cs.length → (∀ (j : Nat) (c : Col), cs[j]? = some c → (∃ x, arr[j]? = some x ∧ c.P i x) ∧ c.St (i + 1) h') → IsZip h' z TI TO (rawInt s.heap.objs.size) → IsRow h' TO arr → IsRow h' s.heap.objs.size arr →
      h'.objs.size = s.heap.objs.size + 1 → (∀ b o, b ≠ z → b ≠ TO → (∀ c ∈ cs, b ≠ c.it) → s.heap.get? b = some o → h'.get? b = some o) → Q (.ref s.heap.objs.size) { s with heap := h', toks := tk })
    (hE : (∃ c ∈ cs, i = c.n) → ∀ h' tk e, (∀ b o, b ≠ z → b ≠ TO → (∀ c ∈ cs, b ≠ c.it) → s.heap.get? b = some o → h'.get? b = some o) → (∃ o, h'.get? e = some o ∧ o.cls = .type "StopIteration") → E (.ref e) { s with heap := h', toks := tk }) :
    wpAny (model prog w) A (Builtin.«zip.__next__» ⟨[.ref z], []⟩) (fun o t => ∃ v, o = .done (.ret v) ∧ Q v t) E s := by
  rcases s with ⟨hp, g, d, tk0, os⟩
  obtain ⟨c0, cs', rfl⟩ : ∃ c0 cs', cs = c0 :: cs' := by
    cases cs with
    | nil => exact absurd rfl ne
    | cons c cs => exact ⟨c, cs, rfl⟩
  change wpAny _ _ (field (.ref z) 2 >>= _) _ _ _
  refine wpAny_bind (wpAny_field hz rfl (x := .bool false) (by rfl) ?_)
  change wpAny _ _ (field (.ref z) 3 >>= _) _ _ _
  refine wpAny_bind (wpAny_field hz rfl (x := .ref TI) (by rfl) ?_)
  refine wpAny_bind (wpAny_seqItems hTI (by rfl) ?_)
  change wpAny _ _ (Builtin.SmallTypes.ownedTupleIsFree (.ref z) >>= _) _ _ _
  apply wpAny_bind; unfold Builtin.SmallTypes.ownedTupleIsFree
  refine wpAny_bind (wpAny_field hz rfl (x := .none) (by rfl) (wpAny_pure ?_))
  simp only [if_true]
  refine wpAny_bind (wpAny_rule (wpAny_bind (wpAny_field hz rfl (x := .ref TO) (by rfl) ?_)))
  refine wpAny_bind (wpAny_setField_rec hz (by simp) fun g0 za sa => ?_)
  have hz0 : IsZip g0 z TI TO .ellipsis := za
  have hs0 : Heap.SameBut z hp g0 := sa
  have mem : ∀ {j : Nat} {c : Col}, (c0 :: cs')[j]? = some c → c ∈ c0 :: cs' := fun h => List.mem_of_getElem? h
  have over : ∀ {c : Col} {m : Nat} {h h' : Heap} {x : Addr}, c ∈ c0 :: cs' → c.St m h → Heap.SameBut x h h' → x ∉ c.fp → c.St m h' := fun hc a b e => Draws.over (D _ hc) a b e
  refine wpAny_bind (wpAny_mono (loop (Now z TI TO (c0 :: cs') i ⟨hp, g, d, tk0, os⟩) _ 0 (fun k v s e hj => ?_) _ ?_) (fun r s' q => ?_) fun _ _ q => q)
  · -- one draw
    rw [Nat.zero_add] at hj ⊢
    obtain ⟨arr, h, tk, rfl, as, row, hzz, hsz, hst, keep⟩ := hj
    obtain ⟨c, hc, rfl⟩ : ∃ c, (c0 :: cs')[k]? = some c ∧ v = .ref c.it := by
      rw [List.getElem?_map] at e
      obtain ⟨c, h1, h2⟩ := Option.map_eq_some_iff.mp e
      exact ⟨c, h1, h2.symm⟩
    have hm := mem hc
    have kn : k < arr.size := by rw [as]; exact (List.getElem?_eq_some_iff.mp hc).1
    have hci := (hst k c hc).2 (Nat.le_refl k)
    have zi : z ≠ c.it := fun q => S.zf c hm (by rw [q]; exact S.me c hm)
    have ti : TO ≠ c.it := fun q => S.tf c hm (by rw [q]; exact S.me c hm)
    refine wpAny_bind (wpAny_onRaise ?_)
    show wpAny _ _ (Builtin.SmallTypes.nextOf (.ref c.it) >>= _) _ _ _
    by_cases hlt : i < c.n
    · refine wpAny_bind ((D c hm).item i _ _ _ hlt hci fun x p1 tk1 hx sn hp1 => wpAny_pure ?_)
      have hp1 : Heap.SameBut c.it h p1 := hp1
      have row1 : IsRow p1 TO arr := hp1.extBut _ _ ti row
      refine wpAny_bind (wpAny_seqItems (s := ⟨p1, g, d, tk1, os⟩) row1 (by rfl) ?_)
      refine wpAny_bind (wpAny_updateSeq (s := ⟨p1, g, d, tk1, os⟩) row1 (by rfl) ?_ (Nat.le_of_lt (L2.small1000 (by rw [as]; exact few))) (by rw [Array.size_setIfInBounds]; exact Nat.le_succ_of_le (Nat.le_of_lt (L2.small1000 (by rw [as]; exact few)))))
      have sb : Heap.SameBut TO p1 (p1.update TO (Obj.mapSeq (·.setIfInBounds k x))) := Heap.SameBut.update ..
      have row2 : IsRow (p1.update TO (Obj.mapSeq (·.setIfInBounds k x))) TO (arr.setIfInBounds k x) := by
        show (p1.update TO _).get? TO = _
        rw [Heap.get?_update_self _ row1 rfl]
        simp [Obj.mapSeq]
      generalize p1.update TO (Obj.mapSeq (·.setIfInBounds k x)) = g1 at sb row2 ⊢
      refine wpAny_bind (wpAny_letGo (wpAny_pure ⟨rfl, arr.setIfInBounds k x, g1, tk1, rfl, by rw [Array.size_setIfInBounds]; exact as, row2, ?_, ?_, fun j c' hc' => ?_, fun b o b1 b2 b3 e => ?_⟩))
      · exact sb.extBut _ _ S.oz.symm (hp1.extBut _ _ zi hzz)
      · rw [sb.1, hp1.1, hsz]
      · have hm' := mem hc'
        refine ⟨fun hj => ?_, fun hj => ?_⟩
        · by_cases ejk : j = k
          · subst ejk
            rw [hc] at hc'
            cases hc'
            refine ⟨hlt, ⟨x, ?_, hx⟩, over hm sn sb (S.tf c hm)⟩
            rw [Array.getElem?_setIfInBounds_self_of_lt kn]
          · obtain ⟨lj, ⟨y, hy, py⟩, sy⟩ := (hst j c' hc').1 (by omega)
            refine ⟨lj, ⟨y, ?_, py⟩, over hm' (over hm' sy hp1 (S.two k j c c' (fun q => ejk q.symm) hc hc')) sb (S.tf c' hm')⟩
            rw [Array.getElem?_setIfInBounds_ne (fun q => ejk q.symm)]
            exact hy
        · have nj : k ≠ j := by omega
          exact over hm' (over hm' ((hst j c' hc').2 (by omega)) hp1 (S.two k j c c' nj hc hc')) sb (S.tf c' hm')
      · exact sb.extBut _ _ b2 (hp1.extBut _ _ (b3 c hm) (keep b o b1 b2 b3 e))
    · have hi : i = c.n := by have := le c hm; omega
      refine wpAny_bind ((D c hm).done _ _ _ (by rw [← hi]; exact hci) fun q e hq he => ?_)
      have hq : Heap.ExtBut c.it h q := hq
      obtain ⟨oe, hoe, hce⟩ := he
      have hoe : q.get? e = some oe := hoe
      have hzq : IsZip q z TI TO .ellipsis := hq _ _ zi hzz
      have hez : e ≠ z := fun q => by rw [q, hzq] at hoe; cases hoe; simp at hce
      refine wpAny_setField_rec (s := ⟨q, g, d, tk, os⟩) hzq (by simp) fun q' _ hq' => ?_
      have hq' : Heap.SameBut z q q' := hq'
      exact hE ⟨c, hm, hi⟩ q' tk e (fun b o b1 b2 b3 x => hq'.extBut _ _ b1 (hq _ _ (b3 c hm) (keep b o b1 b2 b3 x))) ⟨oe, hq'.extBut _ _ hez hoe, hce⟩
  · -- the begin
    refine ⟨a, g0, tk0, rfl, ha, hs0.extBut _ _ S.oz hTO, hz0, hs0.1, fun j c hc => ⟨fun q => absurd q (Nat.not_lt_zero j), fun _ => over (mem hc) (st c (mem hc)) hs0 (S.zf c (mem hc))⟩, fun b o b1 _ _ e => hs0.extBut _ _ b1 e⟩
  · -- behind the last draw
    obtain ⟨rfl, arr, h, tk, rfl, as, row, hzz, hsz, hst, keep⟩ := q
    have last : ∀ (j : Nat) (c : Col), (c0 :: cs')[j]? = some c → i < c.n ∧ (∃ x, arr[j]? = some x ∧ c.P i x) ∧ c.St (i + 1) h := fun j c hc => (hst j c hc).1 (by
      have := (List.getElem?_eq_some_iff.mp hc).1
      rw [Nat.zero_add, List.length_map]
      exact this)
    refine wpAny_bind (wpAny_seqItems (s := ⟨h, g, d, tk, os⟩) row (by rfl) ?_)
    have big := Nat.le_of_lt (L2.small1000 (show arr.size ≤ 1000 by rw [as]; exact few))
    refine wpAny_bind (wpAny_newTuple ?_ (hsz := by rw [Array.length_toList]; exact big))
    have zl : z < h.objs.size := Heap.lt_size hzz
    show wpAny _ _ (Builtin.SmallTypes.ownedTupleHandOut (.ref z) (.ref h.objs.size) >>= _) _ _ ⟨h.push { cls := .type "tuple", data := .seq arr.toList.toArray }, g, d, tk, os⟩
    rw [show arr.toList.toArray = arr from by simp]
    apply wpAny_bind; unfold Builtin.SmallTypes.ownedTupleHandOut
    have zp : IsZip (h.push { cls := .type "tuple", data := .seq arr }) z TI TO .ellipsis := Heap.get?_push_of_some _ hzz
    refine wpAny_bind (wpAny_setField_rec zp (by simp) fun u zu su => ?_)
    have zu : IsZip u z TI TO (rawInt h.objs.size) := zu
    refine wpAny_setField_rec zu (by simp) fun y zy sy => ?_
    have zy : IsZip y z TI TO (rawInt h.objs.size) := zy
    have su : Heap.SameBut z (h.push { cls := .type "tuple", data := .seq arr }) u := su
    have sy : Heap.SameBut z u y := sy
    have lift : ∀ b o, b ≠ z → h.get? b = some o → y.get? b = some o := fun b o b1 e => sy.extBut _ _ b1 (su.extBut _ _ b1 (Heap.get?_push_of_some _ e))
    have newRow : IsRow y h.objs.size arr := sy.extBut _ _ (Nat.ne_of_gt zl) (su.extBut _ _ (Nat.ne_of_gt zl) (Heap.get?_push_size _ rfl))
    have ysz : y.objs.size = h.objs.size + 1 := by rw [sy.1, su.1, Heap.size_push]
    have hsz : h.objs.size = hp.objs.size := hsz
    rw [hsz] at zy newRow ysz
    apply wpAny_pure; refine ⟨_, rfl, ?_⟩
    show Q (.ref h.objs.size) ⟨y, g, d, tk, os⟩
    rw [hsz]
    refine hQ (fun c hc => ?_) arr y tk as (fun j c hc => ⟨(last j c hc).2.1, ?_⟩) zy (lift _ _ S.oz row) newRow ysz fun b o b1 b2 b3 e => lift b o b1 (keep b o b1 b2 b3 e)
    · obtain ⟨j, hj⟩ := List.mem_iff_getElem?.mp hc
      exact (last j c hj).1
    · exact (D c (mem hc)).frame _ _ _ (last j c hc).2.2 fun b hb o e => lift b o (fun q => S.zf c (mem hc) (q ▸ hb)) e
end
end Zn
set_option Elab.async false
set_option linter.all false
set_option maxRecDepth 100000
set_option maxHeartbeats 1000000
namespace Zn
open PySem PySem.Spec PyProof.Rows L2
/-- a list (true) or a tuple at a, its iterator, its items -/
structure Cl where
  lst : Bool
  a : Addr
  it : Addr
  vals : Array Value
def Cl.col (c : Cl) : Col :=
  match c.lst with
  | true => ⟨c.it, [c.it, c.a], c.vals.size, fun i v => c.vals[i]? = some v, fun i h => h.IsListIter c.it c.a i ∧ h.IsList c.a c.vals⟩
  | false => ⟨c.it, [c.it, c.a], c.vals.size, fun i v => c.vals[i]? = some v, fun i h => h.IsTupleIter c.it c.a i ∧ h.IsTuple c.a c.vals⟩
theorem Cl.it_eq (c : Cl) : c.col.it = c.it := by obtain ⟨l, _, _, _⟩ := c; cases l <;> rfl
theorem Cl.fp_eq (c : Cl) : c.col.fp = [c.it, c.a] := by obtain ⟨l, _, _, _⟩ := c; cases l <;> rfl
theorem paired_at {α β : Type} {P : α → β → Prop} : ∀ {as : List α} {bs : List β} {j : Nat} {a : α} {b : β}, Paired P as bs → as[j]? = some a → bs[j]? = some b → P a b
  | _, _, j, _, _, .nil, e, _ => by cases j <;> cases e
  | _, _, 0, _, _, .cons h _, e, f => by cases Option.some.inj e; cases Option.some.inj f; exact h
  | _, _, j + 1, _, _, .cons _ t, e, f => paired_at (j := j) t e f
/-- how the cells of the zip lie -/
structure Lie (z TI TO : Addr) (cols : List (Bool × Addr)) (its : List Addr) : Prop where
  tz : TI ≠ z
  oz : TO ≠ z
  io : TI ≠ TO
  nd : its.Nodup
  it : ∀ b ∈ its, TI ≠ b ∧ TO ≠ b ∧ z ≠ b
  sq : ∀ c ∈ cols, c.2 ≠ z ∧ c.2 ≠ TO ∧ ∀ b ∈ its, c.2 ≠ b
theorem Lie.apart {z TI TO : Addr} {cls : List Cl} (S : Lie z TI TO (cls.map fun c => (c.lst, c.a)) (cls.map (·.it))) : Apart z TI TO (cls.map Cl.col) := by
  have mi : ∀ {c : Cl}, c ∈ cls → c.it ∈ cls.map (·.it) := fun h => List.mem_map.mpr ⟨_, h, rfl⟩
  have ms : ∀ {c : Cl}, c ∈ cls → (c.lst, c.a) ∈ cls.map fun c => (c.lst, c.a) := fun h => List.mem_map.mpr ⟨_, h, rfl⟩
  have un : ∀ {d : Col}, d ∈ cls.map Cl.col → ∃ c ∈ cls, c.col = d := fun h => List.mem_map.mp h
  refine ⟨S.tz, S.oz, S.io, fun d h => ?_, fun d h => ?_, fun d h => ?_, fun d h => ?_, fun j k d e njk hj hk => ?_⟩
  · obtain ⟨c, hc, rfl⟩ := un h
    rw [c.it_eq]
    exact (S.it _ (mi hc)).1
  · obtain ⟨c, hc, rfl⟩ := un h
    rw [c.it_eq, c.fp_eq]
    exact List.mem_cons_self
  · obtain ⟨c, hc, rfl⟩ := un h
    rw [c.fp_eq]
    intro q
    simp only [List.mem_cons, List.not_mem_nil, or_false] at q
    rcases q with q | q
    · exact (S.it _ (mi hc)).2.2 q
    · exact (S.sq _ (ms hc)).1 q.symm
  · obtain ⟨c, hc, rfl⟩ := un h
    rw [c.fp_eq]
    intro q
    simp only [List.mem_cons, List.not_mem_nil, or_false] at q
    rcases q with q | q
    · exact (S.it _ (mi hc)).2.1 q
    · exact (S.sq _ (ms hc)).2.1 q.symm
  · rw [List.getElem?_map] at hj hk
    obtain ⟨c, hc, rfl⟩ := Option.map_eq_some_iff.mp hj
    obtain ⟨c', hc', rfl⟩ := Option.map_eq_some_iff.mp hk
    rw [c.it_eq, c'.fp_eq]
    intro q
    simp only [List.mem_cons, List.not_mem_nil, or_false] at q
    rcases q with q | q
    · have h1 : (cls.map (·.it))[j]? = some c.it := by rw [List.getElem?_map, hc]; rfl
      have h2 : (cls.map (·.it))[k]? = some c.it := by rw [List.getElem?_map, hc', q]; rfl
      exact njk ((List.getElem?_inj (List.getElem?_eq_some_iff.mp h1).1 S.nd).mp (h1.trans h2.symm))
    · exact (S.sq _ (ms (List.mem_of_getElem? hc'))).2.2 _ (mi (List.mem_of_getElem? hc)) q.symm
end Zn
set_option Elab.async false
set_option linter.all false
set_option maxRecDepth 100000
set_option maxHeartbeats 4000000
namespace Zn
open PySem PySem.Spec PyProof.Rows L2 Evl
abbrev h4 (h : Heap) (o1 o2 o3 o4 : Obj) : Heap := (((h.push o1).push o2).push o3).push o4
end Zn
set_option Elab.async false
set_option linter.all false
set_option maxRecDepth 100000
set_option maxHeartbeats 1000000
namespace Zn
open PySem PySem.Spec PyProof.Rows L2 Evl Tr
end Zn
namespace Tr
open PySem PySem.Spec PyProof.Rows L2 Evl Kc Kz Kx Zn
end Tr
set_option Elab.async false
set_option linter.all false
set_option maxRecDepth 100000
namespace Tr
open PySem PySem.Spec PyProof.Rows L2 Evl Kc Kz Kx
abbrev FJ := List AV → (D → Prop) → (Exn → Prop) → Prop
/-- __init__ of a class with one field fl, set last -/
def spI (K : PySem.W.Frag) (C : Addr) (fl : Str) (n : Nat) (F : FJ) : Sp := fun vs H Q EX => ∃ (p dx : Addr) (us : List V) (G : Hp) (as : List AV) (k : D → Prop) (x : Exn → Prop), vs = .ref p :: us ∧ as.length = n ∧ Ex G H ∧ G p = none ∧ H p = some (.ins C dx []) ∧ ArgOk K G H as us ∧ F as k x ∧
  (∀ d v G' H', Ex G' H' → Ex G G' → (∀ b o, G' b = some o → G b = some o ∨ H b = none) → Kept (TN K) (p :: potPs as us) H H' → (∀ b qs, G' b ≠ some (.tbl qs)) → (∀ q ∈ potPs as us, Pot H' q) → G' p = none → H' p = some (.ins C dx [(fl, v)]) → Rp K G' v d → k d → Q .non H') ∧
  (∀ c G' dd H', Ex G' H' → Ex G G' → (∀ b o, G' b = some o → G b = some o ∨ H b = none) → Kept (TN K) (p :: potPs as us) H H' → (∀ b qs, G' b ≠ some (.tbl qs)) → (∀ q ∈ potPs as us, Pot H' q) → XRes K G' c dd → x c → EX (.ref c.cls) (some dd) H')
def RefL (X : Cx) (p C dx : Addr) (fl : Str) (t : TS) (f : S → (D → Prop) → KX → Prop) : Prop := ∀ (W : WX) (E : Ent) (ρ : S) (G : Hp) (σ : L2.St) (H : Hp) (M : Ends) (k : D → Prop) (x : KX), TakesT X W E → Rel X.K E ρ G σ H → E.F p = some (.ins C dx []) → LkX X.K E x W →
  (∀ d v ρ' G' σ' H', Ex G G' → Rel X.K E ρ' G' σ' H' → Rp X.K G' v d → k d → M.nx σ' (upd H' p (.ins C dx [(fl, v)]))) → f ρ k x → t M σ H
def TrL (X : Cx) (p C dx : Addr) (fl : Str) (st : List Stmt) (f : S → (D → Prop) → KX → Prop) : Prop := RefL X p C dx fl (wB X st) f
def lCons (fs : FS) (fr : S → (D → Prop) → KX → Prop) : S → (D → Prop) → KX → Prop := fun ρ k x => fs ρ { nx := fun ρ' => fr ρ' k x, rt := fun _ _ => False } x
def lOne (p : Addr) (fe : FE) : S → (D → Prop) → KX → Prop := fun ρ k x => fe ρ (fun a ρ1 => ρ1[0]? = some (some (.raw (.ref p))) ∧ fz a fun a' => datK a' k) x
section
variable {X : Cx} {p C dx : Addr} {fl : Str} {st : Stmt} {rest : List Stmt} {fs : FS} {fr : S → (D → Prop) → KX → Prop} {fe : FE} {e : Expr} {pos pos' p0 : Pos} {nm : Str}
theorem tl_cons (h : TrS X st fs) (hr : TrL X p C dx fl rest fr) : TrL X p C dx fl (st :: rest) (lCons fs fr) := fun W E ρ G σ H M k x tk R hF lx lk hf pins s I =>
  (pss_cons (ps_w (X := X) (st := st)) (pb_w (X := X) (st := rest))).run pins s σ H M I (h W E ρ G σ H _ { nx := fun ρ' => fr ρ' k x, rt := fun _ _ => False } x tk R lx ⟨fun ρ' G' σ' H' e1 R1 h1 => hr W E ρ' G' σ' H' M k x tk R1 hF lx (fun d v ρ2 G2 σ2 H2 e2 => lk d v ρ2 G2 σ2 H2 (e1.trans e2)) h1, fun _ _ _ _ _ _ _ _ _ z => z.elim, fun _ _ _ _ _ _ z => z.elim, fun _ _ _ _ _ _ z => z.elim⟩ hf)
theorem tl_one (c : Cls X.K C) (na : NoAttr X.K C fl) (hv : TrE X e fe) (ps : PE X (.Name nm p0) (tVar 0)) (hs : swapsWith e (some (.Attribute (.Name nm p0) fl pos')) pos.line X.env = pure false := by rfl) : TrL X p C dx fl [.Assign [.Attribute (.Name nm p0) fl pos'] e pos] (lOne p fe) := fun W E ρ G σ H M k x tk R hF lx lk hf pins s I => by
  refine (pss_one (ps_fld ps (pe_w (X := X) (e := e)) hs)).run pins s σ H M I ?_
  refine hv W E ρ G σ H _ _ x tk R lx (fun a ρ1 G1 v H1 e1 R1 q1 h1 => ?_) hf
  obtain ⟨h0, h1⟩ := h1
  obtain ⟨a', G2, no, e2, R2, q2, h1⟩ := q1.fz R1 h1
  obtain ⟨d, rd, hk⟩ := q2.datK h1
  obtain ⟨u, eu, hu⟩ := R2.slot 0 _ h0
  cases (show u = .ref p from hu)
  exact ⟨_, eu, p, C, dx, [], rfl, (R2.frm p _ hF).1, c, na, by decide, lk d v ρ1 G2 σ H1 (e1.trans e2) R2 rd hk⟩
end
section
variable {K : PySem.W.Frag} {mg : Str → Option Value} {P : Program} {base : Heap} {w : World}
theorem fnInit {nm qual : Str} {st : Stmt} {f C : Addr} {fd : FuncData} {N ps : List Str} {self fl : Str} {k : Nat} {F : FJ} {fb : Addr → S → (D → Prop) → KX → Prop} (Fn : Fun K nm qual st f fd) (S : FnScope N (self :: ps) (defScope st))
    (body : ∀ (p dx : Addr) (cdv : Value) (A : Around) (outer : List Env) (s : Shared) (H : Hp) (E : XK), Room k (A.deeper (envOfC qual (defScope st) s.heap.objs.size f cdv)) → TrL (cxOf (CXL P w mg) P w K mg base N qual (defScope st) f cdv A outer s H E) p C dx fl (defBody st) (fb p))
    (imp : ∀ p as k x, as.length = ps.length → F as k x → fb p (start0 N.length (.raw (.ref p) :: as)) k fun c _ => x c) :
    FnOk P w K mg base (CXL P w mg) (k + 1) f fd (self :: ps) (spI K C fl ps.length F) := by
  have pln : ps.length + 1 ≤ N.length := by
    have := congrArg List.length S.pre
    rw [List.length_take, List.length_cons] at this
    omega
  obtain ⟨oc, od, kV, doc, pm, an, cdv, ct, osl, rfl, lk, cin⟩ := Fn.ex
  refine fn_of lk cin S (fun vs H Q E h => ?_) fun A outer s H vs Q E room want => ⟨_, pb_w, ?_⟩
  · obtain ⟨p, dx, us, G, as, k, x, rfl, h1, _, _, _, h2, _⟩ := h
    rw [List.length_cons, List.length_cons, ← h1, Paired.length h2.hold]
  · obtain ⟨p, dx, us, G, as, k, x, rfl, h1, h2, gp, hp, h3, h4, h5, h6⟩ := want
    have ul : us.length = as.length := (Paired.length h3.hold).symm
    have vl : (V.ref p :: us).length ≤ N.length := by
      rw [List.length_cons, ul, h1]
      exact pln
    have ok : ArgOk K G H (.raw (.ref p) :: as) (.ref p :: us) := by
      refine ⟨.cons rfl h3.hold, fun a ha o => ?_, fun i j a b v n ha hb oa ob va vb => ?_, h3.gno⟩
      · obtain rfl | ha := List.mem_cons.mp ha
        · cases o
        · exact h3.pots a ha o
      · cases i with
        | zero => cases Option.some.inj ha; cases oa
        | succ i =>
          cases j with
          | zero => cases Option.some.inj hb; cases ob
          | succ j => exact h3.apart i j a b v (fun z => n (by rw [z])) ha hb oa ob va vb
    have R0 := rel_start (N := N) h2 ok vl
    have lo : Loose (start0 N.length (.raw (.ref p) :: as)) (start N (.ref p :: us)) p := fun i a hi o z => by
      obtain ⟨v, ev, hh⟩ := R0.slot i a hi
      rw [z] at ev
      cases ev
      have hi := start_get hi
      have := ok.pots a (List.mem_of_getElem? hi) o
      subst this
      obtain ⟨q, eq, _, st⟩ := hh
      cases eq
      obtain ⟨x1, y1, _, _, _, e⟩ := (show Pot H p from st)
      rw [hp] at e
      cases e
    have R1 := R0.aside hp gp lo
    have pe : potPs (.raw (.ref p) :: as) (.ref p :: us) = potPs as us := rfl
    refine body p dx cdv A outer s H E room (fun cls d _ H => E cls d H) _ _ G _ H _ k (fun c _ => x c) ⟨tkl_of rfl rfl rfl rfl, fun _ _ _ _ t => t⟩ R1 upd_same (fun c ρ' G' σ' dd H' R q hx => ?_) (fun d v ρ' G' σ' H' _ R rv hk => ?_) (imp p as k x h1 h4)
    · exact h6 c G' dd H' R.sub R.grow R.new (R.but.wider fun b h => List.mem_cons_of_mem _ h) R.gno R.live q hx
    · have fr := R.frm p _ upd_same
      have ne : ∀ {b : Addr} {o : HO}, G' b = some o → b ≠ p := fun e => ne_of_none e fr.2.1
      refine h5 d v G' _ (fun b o e => by rw [upd_ne (ne e)]; exact R.sub b o e) R.grow R.new ((R.but.wider fun b h => List.mem_cons_of_mem _ h).upd (.inl List.mem_cons_self) (mut_of fr.1 nofun nofun)) R.gno (fun q hq => ?_) fr.2.1 upd_same rv hk
      have pq := R.live q hq
      refine pot_at pq (upd_ne fun z => ?_)
      obtain ⟨x1, y1, _, _, _, e⟩ := pq
      rw [z, fr.1] at e
      cases e
end
def fMake (C : Addr) (fl : Str) (n : Nat) (F : FJ) (fr : FA) : FE := fun ρ k x => fr ρ (fun as ρ1 => argK ρ1 as fun bs w => w = false ∧ (bs.filter AV.isOwn).length = 0 ∧ bs.length = n ∧ F bs (fun d => k (.obj C [(fl, d)]) ρ1) fun _ => False) x
def fM0 (C : Addr) (F : FD) (fa : FE) : FE := fun ρ k x => fa ρ (fun a ρ1 => match a with | .obj C' fs => C' = C ∧ F [.obj C' fs] (fun r => k r ρ1) fun _ => False | _ => False) x
section
variable {X : Cx} {C f : Addr} {fd : FuncData} {self m : Str} {k : Nat} {F : FD} {o e : Expr} {apos pos p : Pos} {fa : FE} {fr : FA}
theorem obj_sp {E : Ent} {ρ : S} {G H : Hp} {σ : L2.St} {a : Addr} {dx : Addr} {vs : List (Str × V)} {fs : List (Str × D)} {kk : KE} {Q : VK} (R : Rel X.K E ρ G σ H) (g : G a = some (.ins C dx vs)) (fl : Flds X.K G vs fs) (lk : LkE X.K E G σ kk Q) (h : F [.obj C fs] (fun r => kk r ρ) fun _ => False) : spT X.K 1 F [.ref a] H Q E0 := by
  refine ⟨G, [.obj C fs], _, _, rfl, R.sub, ⟨.cons ⟨a, dx, vs, rfl, g, fl⟩ .nil, fun b hb o => ?_, (fun i j b c v n h1 h2 o1 _ _ _ => ?_), R.gno⟩, h, fun r G' v H' po rr hk => ?_, fun _ _ _ _ _ _ z => z.elim⟩
  · cases List.mem_singleton.mp hb
    cases o
  · have := List.mem_singleton.mp (List.mem_of_getElem? h1)
    subst this
    cases o1
  · have R1 : Rel X.K E ρ G σ H := R
    obtain ⟨R2, e2⟩ := after_call (as := []) (bs := [.obj C fs]) (vs := [.ref a]) R1 (fun j hj => by cases j with | zero => cases Option.some.inj hj | succ j => cases j <;> cases hj) (fun b hb o => by cases List.mem_singleton.mp hb; cases o) (by
      rw [show lend (Lent ρ σ []) G H = G from funext fun q => lend_out fun l => by obtain ⟨_, _, _, z, _⟩ := l; cases z]
      exact po)
    have off : keepOff (Lent ρ σ []) G' = G' := funext fun q => off_out fun l => by obtain ⟨_, _, _, z, _⟩ := l; cases z
    rw [off] at R2 e2
    refine lk r ρ G' v H' e2 R2 ?_ hk
    rcases rr with ⟨no, hh⟩ | ⟨yo, np, q, rfl, gq, st, nq⟩
    · exact .inr (.inl ⟨no, hh⟩)
    · exact .inr (.inr ⟨yo, np, q, rfl, gq, st, ⟨R.h0 nq, R.f0 nq⟩, R.loose nq⟩)
theorem xe_meth0 (c : Cls X.K C) (hm : Meth X.K C m f) (Fn : FnOk X.prog X.w X.K X.mg X.base (CXL X.prog X.w X.mg) k f fd [self] (spT X.K 1 F)) (hr : Room k X.A) (hb : Binds X.K fd [self] []) (ho : TrE X o fa)
    (fld : ∀ (G : Hp) (vs : List (Str × V)) (fs : List (Str × D)), Flds X.K G vs fs → (∀ k, F [.obj C fs] k (fun _ => False) → vs.lookup m = none)) {pl : Sem Bool}
    (him : eval (.Call (.Attribute o m apos) [] [] pos) X.env = (do
      let ov ← eval o X.env
      standAt apos.atName
      let (ff, first) ← holding [ov] (getMethod ov m pl)
      callWith pos ff first (backTo pos (starEach [] X.env)) (backToKw pos (keywordEach [] X.env))) := by rfl) : TrE X (.Call (.Attribute o m apos) [] [] pos) (fM0 C F fa) :=
  .of (pe_meth0 pe_w c hm Fn hr hb .nil passN him) fun W E ρ G σ H Q k x tk R lx lk hf => by
  refine ho W E ρ G σ H _ _ x tk R lx (fun a ρ1 G1 v H1 e1 R1 q1 h1 => ?_) hf
  cases a <;> first | exact h1.elim | skip
  obtain ⟨rfl, h1⟩ := h1
  rcases q1 with ⟨i, z, _⟩ | ⟨_, hh⟩ | ⟨z, _⟩
  · cases z
  · obtain ⟨b, dx, vs, rfl, g, fl⟩ := hh
    exact ⟨b, dx, vs, rfl, R1.sub _ _ g, fld G1 vs _ fl _ h1, obj_sp R1 g fl (lk.up e1) h1⟩
  · cases z
end
end Tr
set_option Elab.async false
set_option linter.all false
set_option maxRecDepth 100000
namespace Tr
open PySem PySem.Spec PyProof.Rows L2 Evl Kc Kz Kx
section
variable {X : Cx} {C f : Addr} {fd : FuncData} {self m : Str} {k : Nat} {F : FD} {o e : Expr} {apos pos p : Pos} {fa fb : FE} {fr : FA}
def gRepr : D → (Out → Prop) → Prop := fun d k => ((d.canLay0 = true ∧ (∃ ds, d = .list ds ∨ d = .tuple ds)) ∧ d.showable = true ∧ d.hasDict = false ∧ d.depth ≤ 40 ∧ d.shown.length ≤ sizeLine) ∧ k (.val (.str d.shown))
def fScrLen (fa : FE) : FE := fun ρ k x => fa ρ (fun a ρ1 => match a with | .scr ns => k (.dat (.int ns.length)) ρ1 | _ => False) x
theorem xe_scrLen (hg : Gl X "len") (hm : X.mg "len" = none) (ho : TrE X o fa) (he : starEach [o] X.env = (false, eval o X.env) :: starEach [] X.env := by rfl) : TrE X (.Call (.Name "len" p) [o] [] pos) (fScrLen fa) :=
  .of (pe_callB call_len_seq hg hm PySem.boot_len (pa_cons pe_w pa_nil he) (by decide) (by decide) he rfl) fun W E ρ G σ H Q k x tk R lx lk hf => by
  refine ho W E ρ G σ H _ _ x tk R lx (fun a ρ1 G1 v H1 e1 R1 q1 h1 => ?_) hf
  cases a <;> first | exact h1.elim | skip
  rename_i ns
  rcases q1 with ⟨i, z, _⟩ | ⟨_, hh⟩ | ⟨z, _⟩
  · cases z
  · obtain ⟨b, rfl, sq⟩ := hh
    refine ⟨b, _, rfl, .inl (ex_l R1.sub sq), ?_⟩
    rw [List.length_map]
    exact lk _ ρ1 G1 _ H1 e1 R1 (.dat (.int _)) h1
  · cases z
end
end Tr
set_option Elab.async false
set_option linter.all false
set_option maxRecDepth 100000
namespace Tr
open PySem PySem.Spec PyProof.Rows L2 Evl Kc Kz Kx
structure SchF (P : Program) (w : World) (K : PySem.W.Frag) (mg : Str → Option Value) (base : Heap) (C : Addr) (lv : Nat) (Fi : FJ) (Fl Ff : FD) : Prop where
  cl : Cls K C
  mgC : mg "Schema" = some (.ref C)
  init : ∃ f fd, Mk K C f ∧ FnOk P w K mg base (CXL P w mg) lv f fd ["self", "fields"] (spI K C "rows" 1 Fi) ∧ Binds K fd ["self", "fields"] []
  len : ∃ f fd, PySem.W.findIn K (.ref C) "__len__" = some (some (.ref f)) ∧ PySem.W.isFn K (.ref f) = true ∧ FnOk P w K mg base (CXL P w mg) 1 f fd ["self"] (spT K 1 Fl) ∧ Binds K fd ["self"] []
  flds : ∃ f fd, Meth K C "fields" f ∧ FnOk P w K mg base (CXL P w mg) 1 f fd ["self"] (spT K 1 Ff) ∧ Binds K fd ["self"] []
section
variable {X : Cx} {P : Program} {w : World} {K : PySem.W.Frag} {mg : Str → Option Value} {base : Heap} {C : Addr} {lv k : Nat} {Fi : FJ} {Fl Ff : FD} {e : Expr} {fr : FA} {fa : FE} {p pos apos : Pos}
theorem xe_fldsS (d : SchF P w K mg base C lv Fi Fl Ff) (one : ∀ fs k, Ff [.obj C fs] k (fun _ => False) → fs.lookup ("fields" : Str) = none) (i : In X P w K mg base) (hr : Room k X.A) (hk : 1 ≤ k) (ho : TrE X e fa) {pl : Sem Bool}
    (ht : eval (.Call (.Attribute e "fields" apos) [] [] pos) X.env = (do
      let ov ← eval e X.env
      standAt apos.atName
      let (f, first) ← holding [ov] (getMethod ov "fields" pl)
      callWith pos f first (backTo pos (starEach [] X.env)) (backToKw pos (keywordEach [] X.env))) := by rfl) : TrE X (.Call (.Attribute e "fields" apos) [] [] pos) (fM0 C Ff fa) := by
  obtain ⟨rfl, rfl, rfl, rfl, rfl⟩ := i
  obtain ⟨f, fd, m, ok, b⟩ := d.flds
  refine xe_meth0 d.cl m ok (hr.mono hk) b ho (fun G vs fs fl k h => ?_) ht
  have h1 := one fs k h
  have gen : ∀ {vs : List (Str × V)} {fs : List (Str × D)}, Flds X.K G vs fs → fs.lookup ("fields" : Str) = none → vs.lookup ("fields" : Str) = none := by
    intro vs fs fl
    induction fl with
    | nil => intro _; rfl
    | @cons a b l1 l2 h t ih =>
      obtain ⟨n, v⟩ := a
      obtain ⟨n', d⟩ := b
      have e : n = n' := h.1
      subst e
      intro hh
      rw [List.lookup_cons] at hh ⊢
      cases q : ("fields" : Str) == n with
      | true => rw [q] at hh; cases hh
      | false => rw [q] at hh; exact ih hh
  exact gen fl h1
end
end Tr
set_option Elab.async false
set_option linter.all false
set_option maxRecDepth 100000
namespace Tr
open PySem PySem.Spec PyProof.Rows L2 Evl Kc Kz Kx ClX
theorem loose_put {ρ : S} {σ : L2.St} {p : Addr} {i : Nat} {a : AV} {v : V} (ls : Loose ρ σ p) (no : a.isOwn = false) : Loose (ρ.set i (some a)) (σ.set i (some v)) p := fun j b hj ob => by
  rcases getset hj with ⟨e1, e2⟩ | ⟨n, h⟩
  · rw [e2, no] at ob
    cases ob
  · rw [List.getElem?_set_ne fun z => n z.symm]
    exact ls j b h ob
theorem Res.put {K : PySem.W.Frag} {E : Ent} {ρ : S} {G H : Hp} {σ : L2.St} {a b : AV} {v u : V} {i : Nat} (q : Res K E ρ G σ H b u) (no : a.isOwn = false) (nb : ∀ m, b ≠ .at m) : Res K E (ρ.set i (some a)) G (σ.set i (some v)) H b u := by
  rcases q with ⟨m, z, _⟩ | ⟨n, hh⟩ | ⟨yo, np, p, rfl, gp, st, h0, ls⟩
  · exact absurd z (nb m)
  · exact .inr (.inl ⟨n, hh⟩)
  · exact .inr (.inr ⟨yo, np, p, rfl, gp, st, h0, loose_put ls no⟩)
section
variable {X : Cx} {C : Addr} {mc u : Value} {f nm : Str} {n : Int} {p pos : Pos}
theorem xe_cint (hg : Gl X nm) (hm : X.mg nm = some (.ref C)) (r : CRead X.K C mc) (c : CVal X.K C mc f (.int n) u) (hb : attributeBase (.Name nm p) f X.env (eval (.Name nm p) X.env) = eval (.Name nm p) X.env := by rfl) (hd : (nm == ("__debug__" : Str)) = false := by decide) : TrE X (.Attribute (.Name nm p) f pos) (fC (.dat (.int n))) :=
  .of (pe_cval (pe_glob (v := .ref C) hg hm rfl hd) hb) fun W E ρ G σ H Q k x tk R lx lk hf => ⟨C, mc, _, _, rfl, r, c, lk _ ρ G _ H (Ex.refl G) R (.dat (.int _)) hf⟩
end
end Tr
set_option Elab.async false
set_option linter.all false
set_option maxRecDepth 100000
namespace Tr
open PySem PySem.Spec PyProof.Rows L2 Evl Kc Kz Kx
def gEqT (neg : Bool) : Op2 := fun d e k =>
  match d, e with
  | .str a, .str b => k (.val (.bool (neg ^^ decide (a = b))))
  | _, _ => False
theorem dec_txt (a b : Str) : decide (V.str a = V.str b) = decide (a = b) := by
  by_cases h : a = b
  · subst h; simp
  · rw [decide_eq_false h, decide_eq_false fun e => h (V.str.inj e)]
section
variable {X : Cx} {a b : Expr} {fa fb : FE} {pos : Pos} {K : PySem.W.Frag}
theorem y_neT : Y2 K rNe (gEqT true) := fun G H x y d e s hx hy Q k o h => by
  cases d <;> first | exact h.elim | skip
  cases e <;> first | exact h.elim | skip
  rw [hx.strs, hy.strs]
  refine ⟨rfl, ?_⟩
  rw [dec_txt]
  have h : k (.val (.bool (true ^^ _))) := h
  rw [Bool.true_xor] at h
  exact o.val _ _ (.bl _) h
theorem xt_neT (ha : TrE X a fa) (hb : TrE X b fb) : TrT X (.Compare a [.NotEq] [b] pos) (fTest (f2 (gEqT true) fa fb)) := xt_cmp op_ne y_neT (nomark _) ha hb
end
end Tr
set_option Elab.async false
set_option linter.all false
set_option maxRecDepth 100000
namespace Tr
open PySem PySem.Spec PyProof.Rows L2 Evl Kc Kz Kx
def fCallP (F : FD) (fe : FE) : FE := fun ρ k x => fe ρ (fun a ρ1 => a = .pot false ∧ F [.pot true] (fun r => k r ρ1) fun c => x c ρ1) x
end Tr
set_option Elab.async false
set_option linter.all false
set_option maxRecDepth 100000
namespace Tr
open PySem PySem.Spec PyProof.Rows L2 Evl Kc
def keyD : D → Option Key
  | .int i => some (.inl i)
  | .str x => some (.inr x)
  | _ => none
theorem keyD_kD (k : Key) : keyD (kD k) = some k := by cases k <;> rfl
def lookD (k : Key) : List (D × D) → Option D
  | [] => none
  | (d, c) :: es => if keyD d = some k then some c else lookD k es
theorem Rpk.look {K : PySem.W.Frag} {G : Hp} {k : Key} {c : D} : ∀ {kvs : List (Key × V)} {es : List (D × D)}, Rpk K G kvs es → lookD k es = some c → ∃ v, valV kvs k = some v ∧ Rp K G v c
  | _, _, .nil, h => by cases h
  | _, _, .cons (k := j) (v := v) r t, h => by
    unfold lookD at h
    rw [keyD_kD] at h
    by_cases e : j = k
    · rw [if_pos (by rw [e])] at h
      cases h
      exact ⟨v, valV_pos e, r⟩
    · rw [if_neg (fun z => e (Option.some.inj z))] at h
      obtain ⟨w, h1, h2⟩ := Rpk.look t h
      exact ⟨w, by rw [valV_neg e]; exact h1, h2⟩
end Tr
set_option Elab.async false
set_option linter.all false
set_option maxRecDepth 100000
namespace Tr
open PySem PySem.Spec PyProof.Rows L2 Evl Kc Kz Kx
section
variable {X : Cx} {pos : Pos}
def fD0 : FE := fun ρ k _ => k (.own false (.dict [])) ρ
theorem xe_d0 : TrE X (.Dict [] [] pos) fD0 := .of pe_dnewK fun W E ρ G σ H Q k x tk R lx lk h => by
  intro p n
  exact (outLk R lk).newd p _ _ n .nil h
end
end Tr
set_option Elab.async false
set_option linter.all false
set_option maxRecDepth 100000
namespace Tr
open PySem PySem.Spec PyProof.Rows L2 Evl Kc
def nst : Expr → Bool
  | .Starred .. => false
  | _ => true
theorem star_of {e : Expr} {es : List Expr} {env : Env} (h : nst e = true) : starEach (e :: es) env = (false, eval e env) :: starEach es env := by
  cases e <;> first | rfl | cases h
theorem xa_cn {X : Cx} {e : Expr} {es : List Expr} {fa : FE} {fr : FA} (ha : TrE X e fa) (hr : TrA X es fr) (n : nst e = true := by rfl) : TrA X (e :: es) (fCons fa fr) := xa_cons ha hr (star_of n)
theorem plain_of {pos : Pos} {env : Env} : ∀ {es : List Expr}, es.all nst = true → (backTo pos (starEach es env)).any (·.1) = false
  | [], _ => rfl
  | e :: es, h => by
    have hh := (Bool.and_eq_true _ _).mp ((List.all_cons ..).symm.trans h)
    rw [star_of hh.1]
    show (false || (backTo pos (starEach es env)).any (·.1)) = false
    rw [Bool.false_or]
    exact plain_of hh.2
/-- arguments, not to be looked into -/
structure TaW (X : Cx) (es : List Expr) (f : FA) : Prop where
  run : TrA X es f
section
variable {X : Cx} {e : Expr} {es : List Expr} {fa : FE} {fr : FA} {pos : Pos}
theorem xw_nil : TaW X [] fNil := ⟨xa_nil⟩
theorem xw_cons (ha : TrE X e fa) (hr : TaW X es fr) (n : nst e = true := by rfl) : TaW X (e :: es) (fCons fa fr) := ⟨xa_cn ha hr.run n⟩
theorem xe_lstW (h : TaW X es fr) : TrE X (.List es pos) (fDisp .newl fr) := xe_lst h.run
theorem xe_tupW {x1} (h : TaW X es fr) : TrE X (.Tuple es x1 pos) (fDisp .newt fr) := xe_tup h.run
end
/-- a statement, not to be looked into -/
structure TsW (X : Cx) (st : Stmt) (f : FS) : Prop where
  run : TrS X st f
/-- a block, not to be looked into -/
structure TbW (X : Cx) (st : List Stmt) (f : FS) : Prop where
  run : TrB X st f
section
variable {X : Cx} {st : Stmt} {rest : List Stmt} {fs fr : FS}
theorem tw_one (h : TrS X st fs) : TbW X [st] fs := ⟨tb_one h⟩
theorem tw_cons (h : TrS X st fs) (hr : TbW X rest fr) : TbW X (st :: rest) (sCons fs fr) := ⟨tb_cons h hr.run⟩
theorem tw_consV (h : TsW X st fs) (hr : TbW X rest fr) : TbW X (st :: rest) (sCons fs fr) := ⟨tb_cons h.run hr.run⟩
end
/-- a display, not to be looked into -/
structure TeW (X : Cx) (e : Expr) (f : FE) : Prop where
  run : TrE X e f
section
variable {X : Cx} {a e : Expr} {es : List Expr} {fa fe : FE} {fr : FA} {pos : Pos}
theorem xe_lstV (h : TaW X es fr) : TeW X (.List es pos) (fDisp .newl fr) := ⟨xe_lst h.run⟩
theorem xe_tupV {x1} (h : TaW X es fr) : TeW X (.Tuple es x1 pos) (fDisp .newt fr) := ⟨xe_tup h.run⟩
theorem xv_cons (ha : TeW X e fa) (hr : TaW X es fr) (n : nst e = true := by rfl) : TaW X (e :: es) (fCons fa fr) := xw_cons ha.run hr n
theorem xe_addV (ha : TrE X a fa) (hb : TeW X e fe) : TrE X (.BinOp a .Add e pos) (f2 gAdd fa fe) := xe_add ha hb.run
theorem ts_setV (i : Nat) {n : Str} {pos' : Pos} (h : TeW X e fe) (hN : X.N.Nodup) (hi : X.N[i]? = some n) (hx : Loc X.env.scope n) (hs : swapsWith e (some (.Name n pos')) pos.line X.env = pure false := by rfl) (hf : X.fn n = true ∨ X.env.scope.names.lookup n = some .local := by first | exact .inl rfl | exact .inr rfl | assumption) :
    TsW X (.Assign [.Name n pos'] e pos) (sSet i fe) := ⟨ts_set i h.run hN hi hx hs hf⟩
end
end Tr
set_option Elab.async false
set_option linter.all false
set_option maxRecDepth 100000
namespace Tr
open PySem PySem.Spec PyProof.Rows L2 Evl Kc
end Tr
set_option Elab.async false
set_option linter.all false
set_option maxRecDepth 100000
namespace Tr
open PySem PySem.Spec PyProof.Rows L2 Evl Kc Kz
/-- for each dict its keys; all values are True -/
abbrev NK := List (List Str)
abbrev trK (z : Str) : Key × V := (.inr z, .bl true)
abbrev dkOf (ks : List Str) : HO := .dK (ks.map trK)
def Ent.withF (E : Ent) (F' : Hp) : Ent := { E with F := F' }
structure Nst (E : Ent) (F' : Hp) (p : Addr) (qs : List Addr) (es : NK) : Prop where
  up : ∀ b o, E.F b = some o → F' b = some o
  top : F' p = some (.lst (qs.map V.ref))
  len : qs.length = es.length
  nd : qs.Nodup
  ds : ∀ (j : Nat) (q : Addr) (ks : List Str), qs[j]? = some q → es[j]? = some ks → F' q = some (dkOf ks)
  h0 : ∀ q ∈ qs, E.H0 q = none
  f0 : ∀ q ∈ qs, E.F q = none
  fp : E.F p = none
  hp : E.H0 p = none
def RelN (K : PySem.W.Frag) (E : Ent) (i : Nat) (es : NK) (ρ : S) (G : Hp) (σ : L2.St) (H : Hp) : Prop :=
  ∃ p qs F', Nst E F' p qs es ∧ ρ[i]? = some (some (.raw (.ref p))) ∧ Rel K (E.withF F') ρ G σ H
structure EndsN where
  nx : NK → S → Prop
  rt : AV → S → Prop
abbrev FN := NK → S → EndsN → KX → Prop
structure LkN (K : PySem.W.Frag) (E : Ent) (i : Nat) (G : Hp) (N : EndsN) (M : Ends) : Prop where
  nx : ∀ es ρ' G' σ' H', Ex G G' → RelN K E i es ρ' G' σ' H' → N.nx es ρ' → M.nx σ' H'
  rt : ∀ a ρ' G' σ' v H', Ex G G' → Rel K E ρ' G' σ' H' → Res K E ρ' G' σ' H' a v → N.rt a ρ' → M.rt v H'
theorem LkN.up {K : PySem.W.Frag} {E : Ent} {i : Nat} {G G1 : Hp} {N : EndsN} {M : Ends} (l : LkN K E i G N M) (e : Ex G G1) : LkN K E i G1 N M :=
  ⟨fun es ρ' G' σ' H' e1 => l.nx es ρ' G' σ' H' (e.trans e1), fun a ρ' G' σ' v H' e1 => l.rt a ρ' G' σ' v H' (e.trans e1)⟩
def RefN (X : Cx) (i : Nat) (t : TS) (f : FN) : Prop := ∀ (W : WX) (E : Ent) (es : NK) (ρ : S) (G : Hp) (σ : L2.St) (H : Hp) (M : Ends) (N : EndsN) (x : KX), TakesT X W E → RelN X.K E i es ρ G σ H → LkX X.K E x W → LkN X.K E i G N M → f es ρ N x → t M σ H
def TnS (X : Cx) (i : Nat) (st : Stmt) (f : FN) : Prop := RefN X i (wS X st) f
def TnB (X : Cx) (i : Nat) (st : List Stmt) (f : FN) : Prop := RefN X i (wB X st) f
theorem TnS.of {X : Cx} {i : Nat} {e : Stmt} {t : TS} {f : FN} (h : PS X e t) (r : RefN X i t f) : TnS X i e f := fun W E es ρ G σ H M N x tk R lx lk hf pins s I => h.run pins s σ H M I (r W E es ρ G σ H M N x tk R lx lk hf)
theorem TnB.of {X : Cx} {i : Nat} {e : List Stmt} {t : TS} {f : FN} (h : PSs X e t) (r : RefN X i t f) : TnB X i e f := fun W E es ρ G σ H M N x tk R lx lk hf pins s I => h.run pins s σ H M I (r W E es ρ G σ H M N x tk R lx lk hf)
theorem set_get {α : Type} {l : List α} {n j : Nat} {a b : α} (h : (l.set n a)[j]? = some b) : (j = n ∧ b = a) ∨ (j ≠ n ∧ l[j]? = some b) := by
  rw [List.getElem?_set] at h
  by_cases e : n = j
  · rw [if_pos e] at h
    split at h
    · cases h
      exact .inl ⟨e.symm, rfl⟩
    · cases h
  · rw [if_neg e] at h
    exact .inr ⟨fun z => e z.symm, h⟩
theorem nd_at {qs : List Addr} (nd : qs.Nodup) {i j : Nat} {q : Addr} (h1 : qs[i]? = some q) (h2 : qs[j]? = some q) : i = j := by
  obtain ⟨l1, e1⟩ := List.getElem?_eq_some_iff.mp h1
  obtain ⟨l2, e2⟩ := List.getElem?_eq_some_iff.mp h2
  exact (List.getElem_inj nd).mp (e1.trans e2.symm)
theorem Nst.put {E : Ent} {F' : Hp} {p q : Addr} {qs : List Addr} {es : NK} {n : Nat} {ks : List Str} (s : Nst E F' p qs es) (hq : qs[n]? = some q) (he : es[n]? = some ks) (ks' : List Str) : Nst E (upd F' q (dkOf ks')) p qs (es.set n ks') := by
  have mq := List.mem_of_getElem? hq
  have dq := s.ds n q ks hq he
  refine ⟨fun b o h => ?_, ?_, by rw [List.length_set]; exact s.len, s.nd, fun j r ks2 h1 h2 => ?_, s.h0, s.f0, s.fp, s.hp⟩
  · rw [upd_ne fun e => by rw [e, s.f0 q mq] at h; cases h]
    exact s.up b o h
  · rw [upd_ne fun e => by have := s.top; rw [e, dq] at this; cases this]
    exact s.top
  · rcases set_get h2 with ⟨rfl, rfl⟩ | ⟨nj, h2⟩
    · rw [hq] at h1
      cases h1
      exact upd_same
    · rw [upd_ne fun e => nj (nd_at s.nd h1 (by rw [e]; exact hq))]
      exact s.ds j r ks2 h1 h2
end Tr
set_option Elab.async false
set_option linter.all false
set_option maxRecDepth 100000
namespace Tr
open PySem PySem.Spec PyProof.Rows L2 Evl Kc Kz
section
variable {K : PySem.W.Frag} {E : Ent} {i : Nat} {es : NK} {ρ : S} {G H F' : Hp} {σ : L2.St} {p : Addr} {qs : List Addr}
theorem Nst.get {n : Nat} {ks : List Str} (s : Nst E F' p qs es) (h : es[n]? = some ks) : ∃ q, qs[n]? = some q ∧ F' q = some (dkOf ks) := by
  have l := (List.getElem?_eq_some_iff.mp h).1
  have l2 : n < qs.length := by rw [s.len]; exact l
  have e : qs[n]? = some qs[n] := List.getElem?_eq_getElem l2
  exact ⟨_, e, s.ds n _ ks e h⟩
end
end Tr
set_option Elab.async false
set_option linter.all false
set_option maxRecDepth 100000
namespace Kz
open PySem PySem.Spec PyProof.Rows L2
abbrev enumObj (n : Addr) : Obj := { cls := .type "enumerate", data := .fields #[.none, .bool false, .ref n, rawInt 0, .none, .none] }
set_option maxHeartbeats 2000000 in
theorem meets_enum1 {v : Value} {it : Obj} {P : Heap → Prop} (B : Begins v it P) : Meets (Builtin.«enumerate.__new__» ⟨[.type "enumerate", v], []⟩) (fun _ R s => P s.heap ∧
    R (.ok (.ret (.ref (s.heap.push it).objs.size))) { s with heap := (s.heap.push it).push (enumObj s.heap.objs.size) }) :=
  .of_wp fun prog w A R s want => by
    obtain ⟨hp, gl, dd, tk, os⟩ := s
    obtain ⟨here, want⟩ := want
    have hsub := sub_enumerate
    have begin_ : ∀ {A' : Around} {E' : Value → Shared → Prop} {Q : Value → Shared → Prop}, Q (.ref hp.objs.size) ⟨hp.push it, gl, dd, tk, os⟩ → wpAny (model prog w) A' (pyIter v) Q E' ⟨hp, gl, dd, tk, os⟩ :=
      fun q => B.iter prog w _ _ ⟨hp, gl, dd, tk, os⟩ _ here q
    wp_walk using begin_
    refine wpAny_stack_any fun stk => wpAny_pure ?_
    split
    · rename_i cc _ _ _ _ _
      cases (cc == Value.type "enumerate")
      · wp_walk using begin_
        exact ⟨_, rfl, want⟩
      · wp_walk using begin_
        exact ⟨_, rfl, want⟩
    · wp_walk using begin_
      exact ⟨_, rfl, want⟩
theorem call_enum1 {prog : Program} {w : World} {A : Around} {E : Value → Shared → Prop} {s : Shared} {v : Value} {it : Obj} {P : Heap → Prop} {Q : Value → Shared → Prop} (B : Begins v it P) (here : P s.heap)
    (want : ∀ h', IsEnum h' (s.heap.objs.size + 1) s.heap.objs.size 0 .none → h'.get? s.heap.objs.size = some it → h'.objs.size = s.heap.objs.size + 2 → (∀ b o, s.heap.get? b = some o → h'.get? b = some o) → Q (.ref (s.heap.objs.size + 1)) { s with heap := h' }) :
    wpAny (model prog w) A (call (.type "enumerate") [v]) Q E s := by
  refine callType_new F.called_enumerate (by decide) (F.typeCall_enumerate_1 _) (F.newCall_enumerate_1 _) (fun ob => F.args_object_init_2 ob _) F.entry_enumerate_new (meets_enum1 B) ⟨here, ?_⟩
  have size1 : (s.heap.push it).objs.size = s.heap.objs.size + 1 := Heap.size_push ..
  show _ ∧ _
  rw [size1]
  have made : IsEnum ((s.heap.push it).push (enumObj s.heap.objs.size)) (s.heap.objs.size + 1) s.heap.objs.size 0 .none := by
    have at_ := Heap.get?_push_size (s.heap.push it) (o := enumObj s.heap.objs.size) rfl
    rw [size1] at at_
    exact at_
  exact ⟨⟨_, made, rfl⟩, want _ made (Heap.get?_push_of_some _ (Heap.get?_push_size _ B.free)) (by rw [Heap.size_push, size1]) fun b o q => Heap.get?_push_of_some _ (Heap.get?_push_of_some _ q)⟩
/-- the tuple at a, each item in a new pair with its number -/
def IteT (K : PySem.W.Frag) (a : Addr) : It :=
  ⟨fun i H => ∃ (xs : List V) (x : V), SqT K H a xs ∧ xs[i]? = some x, fun i H v H' => ∃ T x, v = .ref T ∧ H T = none ∧ H' = upd H T (.tup [.int (i : Nat), x]) ∧ ∀ ys, SqT K H a ys → ys[i]? = some x, fun i H => ∃ xs : List V, SqT K H a xs ∧ i = xs.length⟩
theorem walk_enumT {K : PySem.W.Frag} {a : Addr} {xs : List V} : Walk (IteT K a) xs.length (fun H => SqT K H a xs) (YPair (fun i => some (.int (i : Nat))) (fun i => xs[i]?)) := by
  refine ⟨fun i H hi q => ⟨xs, xs[i], q, List.getElem?_eq_getElem hi⟩, fun H q => ⟨xs, q, rfl⟩, fun i H x H' hi q y => ?_⟩
  obtain ⟨T, y, e1, e2, e3, f⟩ := y
  exact ⟨T, _, y, e1, e2, e3, rfl, f _ q⟩
theorem turn_enumT {P : Program} {w : World} {K : PySem.W.Frag} {elts : List Expr} {kk : Nat} {tpos : Pos} {a e it : Addr} (n1 : e ≠ it) (n2 : a ≠ it) (n3 : e ≠ a) :
    Turn P w K (.Tuple elts kk tpos) (IteT K a) [e, it] e (fun i h => (∃ old, IsEnum h e it (0 + (i : Int)) old) ∧ h.IsTupleIter it a i) where
  mem := by simp
  obj := fun i h st c mc => by
    obtain ⟨⟨old, ee⟩, ⟨o1, e1, _, d1⟩⟩ := st
    simp only [List.mem_cons, List.not_mem_nil, or_false] at mc
    rcases mc with rfl | rfl
    · exact ⟨_, ee, fun v q => nomatch q⟩
    · exact ⟨o1, e1, fun v q => by rw [d1] at q; cases q⟩
  keep := fun i h h' st k => by
    obtain ⟨⟨old, ee⟩, j1⟩ := st
    exact ⟨⟨old, k e (by simp) _ ee⟩, j1.at fun o q => k it (by simp) o q⟩
  item := by
    intro X eP ew eK calm i pins s σ H E I far st got
    subst eP ew eK
    obtain ⟨⟨old, ee⟩, j1⟩ := st
    obtain ⟨xs, x, qx, ex⟩ := got
    obtain ⟨as, va, p, _⟩ := I.tuple qx
    obtain ⟨u, eu, ru⟩ := va.get ex
    have hh : X.A.in1.handled = none := I.ok.hd calm
    have W := WalksT.enumFrom (prog := X.prog) (w := X.w) (A := X.A) 0 (Draws.tuple hh it a n2 as.toArray) e n1 (by simp [n1, n3]) (by simp)
    have li : i < as.length := (List.getElem?_eq_some_iff.mp eu).1
    have hi : i < as.toArray.size := by rw [List.size_toArray]; exact li
    refine W.item i s _ _ hi ⟨⟨old, ee⟩, ⟨j1, p⟩⟩ fun T vals h' tk pt hT hTup mid k => ?_
    obtain ⟨t, v2, g2, rfl⟩ := pt
    have g2 : as.toArray[i]? = some v2 := g2
    rw [List.getElem?_toArray] at g2
    cases Option.some.inj (g2.symm.trans eu)
    refine ⟨_, rfl, W.go elts kk tpos i T { s with heap := h', toks := tk } _ _ mid fun h'' st'' k2 => ?_⟩
    have ap := W.apart i T h' mid
    have hT2 : h''.IsTuple T #[.int (0 + (i : Int)) t, u] := hTup.at fun o q => k2 T o ap q
    have new : ObjOk X.prog X.w (upd H T (.tup [.int (i : Nat), x])) h'' T (.tup [.int (i : Nat), x]) := ⟨by show 2 ≤ sizeLine; decide, [.int (0 + (i : Int)) t, u], .cons ⟨t, by rw [Int.zero_add]⟩ (.cons ru .nil), hT2⟩
    have I1 : Inv X pins σ (upd H T (.tup [.int (i : Nat), x])) { s with heap := h'', toks := tk } :=
      I.turnedNew (t' := tk) (ch := [e, it]) (fun c o hb q => k2 c o hb (k c o hb q)) far hT new
    refine ⟨.ref T, _, I1, rfl, ⟨T, x, rfl, I.hok.fresh hT, rfl, fun l hl => by rw [I.tuple_inj hl qx]; exact ex⟩, ⟨st''.1, st''.2.1⟩, fun c mem => ?_⟩
    have low : c < s.heap.objs.size := by
      simp only [List.mem_cons, List.not_mem_nil, or_false] at mem
      rcases mem with rfl | rfl
      · exact Heap.lt_size ee
      · obtain ⟨_, e1, _⟩ := id j1
        exact Heap.lt_size e1
    rw [upd_ne (Nat.ne_of_lt (Nat.lt_of_lt_of_le low hT))]
    exact (far c mem).1
  done := by
    intro X eP ew eK calm i pins s σ H E I far st got
    subst eP ew eK
    obtain ⟨⟨old, ee⟩, j1⟩ := st
    obtain ⟨xs, qx, last⟩ := got
    obtain ⟨as, va, p, _⟩ := I.tuple qx
    have hh : X.A.in1.handled = none := I.ok.hd calm
    have W := WalksT.enumFrom (prog := X.prog) (w := X.w) (A := X.A) 0 (Draws.tuple hh it a n2 as.toArray) e n1 (by simp [n1, n3]) (by simp)
    have q : i = as.toArray.size := by rw [last, List.size_toArray, va.length]
    rw [q] at j1 ee
    refine W.done s _ _ ⟨⟨old, ee⟩, ⟨j1, p⟩⟩ fun h' tk k => ⟨rfl, ?_⟩
    exact I.turnedL (t' := tk) (ch := [e, it]) k far
  self := fun _ _ _ _ _ now h => by
    obtain ⟨⟨old, ee⟩, _⟩ := now
    exact wpAny_pyIter_enum ee h
def iEnumT (K : PySem.W.Frag) (ta : TA) : TI := fun σ H R => ta σ H fun vs H1 => ∃ a xs, vs = [.ref a] ∧ SqT K H1 a xs ∧ R (IteT K a) H1
theorem pi_enumT {X : Cx} {e : Expr} {ta : TA} {p pos tpos : Pos} {elts : List Expr} {kk : Nat} (hg : Gl X "enumerate") (hm : X.mg "enumerate" = none) (ha : PA X [e] ta) (star : starEach [e] X.env = [(false, eval e X.env)] := by rfl) :
    PI X (.Tuple elts kk tpos) (.Call (.Name "enumerate" p) [e] [] pos) (iEnumT X.K ta) := by
  refine ⟨fun pins s σ H R I want => ?_⟩
  refine Call_ (ld_blt I hg hm boot_enumerate (PyProof.Rows.callWith_type1 (thn (ha.run pos pins s σ H _ I want) fun us s1 ⟨vs, H1, I1, r1, q1⟩ => ?_) star rfl))
  obtain ⟨a, xs, rfl, qx, q⟩ := q1
  obtain ⟨u, rfl, ra⟩ := vals1 r1
  cases ra
  obtain ⟨as, va, p1, _⟩ := I1.tuple qx
  have ba : a < s1.heap.objs.size := by
    obtain ⟨_, eb, _⟩ := id p1
    exact Heap.lt_size eb
  refine call_enum1 (begins_tuple a as.toArray) p1 fun h' ee g1 hsz k => wpAny_pyIter_enum ee ?_
  have I2 : Inv X pins σ H1 { s1 with heap := h' } := I1.kept (t' := s1.toks) k
  refine ⟨s1.heap.objs.size + 1, [s1.heap.objs.size + 1, s1.heap.objs.size], _, _, H1, rfl, I2, turn_enumT (Nat.succ_ne_self _) (Nat.ne_of_lt ba) (Nat.ne_of_gt (Nat.lt_succ_of_lt ba)), ⟨⟨.none, ee⟩, ⟨_, g1, rfl, rfl⟩⟩, fun c mem => ?_, q⟩
  have high : s1.heap.objs.size ≤ c := by
    simp only [List.mem_cons, List.not_mem_nil, or_false] at mem
    rcases mem with rfl | rfl
    · exact Nat.le_add_right _ _
    · exact Nat.le_refl _
  exact I1.fpOk high (I1.hok.fresh high)
end Kz
set_option Elab.async false
set_option linter.all false
set_option maxRecDepth 100000
namespace Tr
open PySem PySem.Spec PyProof.Rows L2 Evl Kc Kz Kx
section
variable {X : Cx} {fa : FE} {fr : FA} {tg e o : Expr} {p pos apos cpos p1 p2 p3 tpos : Pos} {elts : List Expr} {kk i k : Nat}
def iEnT (fr : FA) : FI := fun ρ k x => fr ρ (fun as ρ1 => dats as fun ds => match ds with | [.tuple xs] => k (enumD 0 xs) ρ1 | _ => False) x
theorem ti_enumT (hg : Gl X "enumerate") (hm : X.mg "enumerate" = none) (h : TrA X [e] fr) (hs : starEach [e] X.env = [(false, eval e X.env)] := by rfl) : TrI X (.Tuple elts kk tpos) (.Call (.Name "enumerate" p) [e] [] pos) (iEnT fr) := ⟨_, pi_enumT hg hm pa_w hs, fun W E ρ G σ H R k x tk Rl lx lk hf => by
  refine h W E ρ G σ H _ _ x tk Rl lx (fun as ρ1 G1 vs H1 e1 R1 q1 h1 => ?_) hf
  obtain ⟨ds, rp, h1⟩ := dats_rps q1 h1
  split at h1
  · rename_i xs
    cases rp with
    | cons r t =>
      cases t
      cases r with
      | tup g r =>
        refine ⟨_, _, rfl, ex_t R1.sub g, lk _ ρ1 G1 _ H1 e1 R1 (.of walk_enumT (by rw [enumD_len, r.len]) (fun E ρ' G' σ' H' e3 R3 => ex_t R3.sub (ex_t e3 g)) (yPair fun i d hd => ?_)) h1⟩
        rw [enumD_get] at hd
        obtain ⟨c, hc, rfl⟩ := Option.map_eq_some_iff.mp hd
        obtain ⟨v, hv, rv⟩ := r.get hc
        rw [Nat.zero_add]
        exact ⟨_, v, rfl, hv, _, c, rfl, .int _, rv⟩
  · exact h1.elim⟩
theorem PI.or {w1 w2 : TI} (h1 : PI X tg e w1) (h2 : PI X tg e w2) : PI X tg e (fun σ H R => w1 σ H R ∨ w2 σ H R) := ⟨fun pins s σ H R I h => h.elim (h1.run pins s σ H R I) (h2.run pins s σ H R I)⟩
def iOr (f1 f2 : FI) : FI := fun ρ k x => f1 ρ k x ∨ f2 ρ k x
theorem TrI.or {f1 f2 : FI} (h1 : TrI X tg e f1) (h2 : TrI X tg e f2) : TrI X tg e (iOr f1 f2) := by
  obtain ⟨w1, a1, r1⟩ := h1
  obtain ⟨w2, a2, r2⟩ := h2
  exact ⟨_, PI.or a1 a2, fun W E ρ G σ H R k x tk Rl lx lk hf => hf.elim (fun h => .inl (r1 W E ρ G σ H R k x tk Rl lx lk h)) fun h => .inr (r2 W E ρ G σ H R k x tk Rl lx lk h)⟩
/-- a list or a tuple -/
abbrev iEnA (fr : FA) : FI := iOr (iEn fr) (iEnT fr)
theorem ti_enumA (hg : Gl X "enumerate") (hm : X.mg "enumerate" = none) (h : TrA X [e] fr) (hs : starEach [e] X.env = [(false, eval e X.env)] := by rfl) : TrI X (.Tuple elts kk tpos) (.Call (.Name "enumerate" p) [e] [] pos) (iEnA fr) := TrI.or (ti_enum hg hm h hs) (ti_enumT hg hm h hs)
end
structure Met0 (P : Program) (w : World) (K : PySem.W.Frag) (mg : Str → Option Value) (base : Heap) (C : Addr) (m : Str) (lv : Nat) (F : FD) : Prop where
  cl : Cls K C
  me : ∃ f fd, Meth K C m f ∧ FnOk P w K mg base (CXL P w mg) lv f fd ["self"] (spT K 1 F) ∧ Binds K fd ["self"] []
theorem flds_none {K : PySem.W.Frag} {G : Hp} {m : Str} : ∀ {vs : List (Str × V)} {fs : List (Str × D)}, Flds K G vs fs → fs.lookup m = none → vs.lookup m = none := by
  intro vs fs fl
  induction fl with
  | nil => intro _; rfl
  | @cons a b l1 l2 h t ih =>
    obtain ⟨n, v⟩ := a
    obtain ⟨n', d⟩ := b
    have e : n = n' := h.1
    subst e
    intro hh
    rw [List.lookup_cons] at hh ⊢
    cases q : m == n with
    | true => rw [q] at hh; cases hh
    | false => rw [q] at hh; exact ih hh
theorem xe_met0 {X : Cx} {P : Program} {w : World} {K : PySem.W.Frag} {mg : Str → Option Value} {base : Heap} {C : Addr} {m : Str} {lv k : Nat} {F : FD} {e : Expr} {fa : FE} {pos apos : Pos} (d : Met0 P w K mg base C m lv F) (one : ∀ fs k, F [.obj C fs] k (fun _ => False) → fs.lookup m = none) (i : In X P w K mg base) (hr : Room k X.A) (hk : lv ≤ k) (ho : TrE X e fa) {pl : Sem Bool}
    (ht : eval (.Call (.Attribute e m apos) [] [] pos) X.env = (do
      let ov ← eval e X.env
      standAt apos.atName
      let (fn, first) ← holding [ov] (getMethod ov m pl)
      callWith pos fn first (backTo pos (starEach [] X.env)) (backToKw pos (keywordEach [] X.env))) := by rfl) : TrE X (.Call (.Attribute e m apos) [] [] pos) (fM0 C F fa) := by
  obtain ⟨rfl, rfl, rfl, rfl, rfl⟩ := i
  obtain ⟨f, fd, mm, ok, b⟩ := d.me
  exact xe_meth0 d.cl mm ok (hr.mono hk) b ho (fun G vs fs fl k h => flds_none fl (one fs k h)) ht
end Tr
set_option Elab.async false
set_option linter.all false
set_option maxRecDepth 100000
namespace Tr
open PySem PySem.Spec PyProof.Rows L2 Evl Kc Kz Kx
/-- a value without parts -/
inductive FlatV : V → Prop
  | non : FlatV .non
  | bl (b : Bool) : FlatV (.bl b)
  | int (i : Int) : FlatV (.int i)
  | str (z : Str) : FlatV (.str z)
/-- kept of such a value: the value -/
def spKf : Sp := fun vs H Q _ => ∃ (v : V) (n : Int), vs = [v, .int n] ∧ FlatV v ∧ Q v H
theorem kf_mono (vs : List V) (H : Hp) (Q Q' : VK) (E : XK) (h : ∀ v H', Q v H' → Q' v H') (q : spKf vs H Q E) : spKf vs H Q' E := by
  obtain ⟨v, n, e, fl, q⟩ := q
  exact ⟨v, n, e, fl, h _ _ q⟩
theorem flatV_of {K : PySem.W.Frag} {G : Hp} {v : V} {d : D} (h : Rp K G v d) (f : flatD d = true) : FlatV v := by
  cases h <;> first
    | exact .non
    | exact .bl _
    | exact .int _
    | exact .str _
    | cases f
/-- what is left of the heap when such an error was made and is let go -/
theorem made_one {H : Hp} {a dx D : Addr} {fl : Str} {v : V} (na : H a = none) (nd : dx ≠ a) : upd (del (upd (upd (upd H a (exo a D none)) dx (exd dx [(fl, v)])) a (exo a D (some dx))) a) dx (.xd [(fl, v)]) = upd H dx (.xd [(fl, v)]) := by
  funext b
  by_cases h1 : b = dx
  · rw [h1, upd_same, upd_same]
  · rw [upd_ne h1, upd_ne h1]
    by_cases h2 : b = a
    · rw [h2, del_same, na]
    · rw [del_ne h2, upd_ne h2, upd_ne h1, upd_ne h2]
/-- the class c of the program: an error of one field -/
structure Er1 (P : Program) (w : World) (K : PySem.W.Frag) (mg : Str → Option Value) (base : Heap) (c : Str) (D : Addr) (fl x : Str) (lv : Nat) : Prop where
  T : ∃ (B newId initId : String) (tail : List Value), OexB K D B newId initId tail
  mgE : mg c = some (.ref D)
  ini : ∃ fI fd, PySem.W.findIn K (.ref D) "__init__" = some (some (.ref fI)) ∧ PySem.W.typeIn K (.ref fI) = some (.type "function") ∧ FnOk P w K mg base CX0 lv fI fd ["self", x] (spErr1 D fl spKf) ∧ Binds K fd ["self", x] []
def sRaise1 (D : Addr) (fl : Str) (fr : FA) : FS := fun ρ _ x => fr ρ (fun as ρ1 => dats as fun ds => match ds with | [d] => flatD d = true ∧ x ⟨D, [(fl, d)]⟩ ρ1 | _ => False) x
theorem ts_raise1 {X : Cx} {P : Program} {w : World} {K : PySem.W.Frag} {mg : Str → Option Value} {base : Heap} {c x fl : Str} {D : Addr} {lv k : Nat} {e : Expr} {fr : FA} {p pos rpos : Pos} (d : Er1 P w K mg base c D fl x lv) (i : In X P w K mg base) (hc : X.calm = true) (hr : Room k X.A) (hk : lv + 1 ≤ k) (hg : Gl X c) (ha : TrA X [e] fr)
    (hdb : (c == ("__debug__" : Str)) = false := by decide) (he : starEach [e] X.env = [(false, eval e X.env)] := by rfl) : TrS X (.Raise (some (.Call (.Name c p) [e] [] pos)) none rpos) (sRaise1 D fl fr) := by
  obtain ⟨rfl, rfl, rfl, rfl, rfl⟩ := i
  obtain ⟨fI, fd, iC, tI, ok, bd⟩ := d.ini
  obtain ⟨_, _, _, _, T⟩ := d.T
  intro W E ρ G σ H M N y tk R lx lk hf pins s I
  refine (L2N.ps_raise hc tk.1.1 (pmk_oexb T iC tI ok (hr.mono hk) bd .nil pass0 hg d.mgE pa_w hdb he rfl)).run pins s σ H M I ?_
  refine ha W E ρ G σ H _ _ y tk R lx (fun as ρ1 G1 vs H1 e1 R1 q1 h1 => ?_) hf
  obtain ⟨ds, rp, h1⟩ := dats_rps q1 h1
  cases rp with
  | nil => exact h1.elim
  | @cons v dd _ _ rv t =>
    cases t with
    | cons _ _ => exact h1.elim
    | nil =>
      obtain ⟨fd', hx⟩ := h1
      refine ⟨by show 1 ≤ 1000; decide, fun a na => ⟨a, v, rfl, upd_same, v, 5, rfl, flatV_of rv fd', upd_same, fun dx n1 n2 => ⟨rfl, dx, [(fl, v)], upd_same, ?_, ?_, ?_⟩⟩⟩
      · rw [upd_ne n2, upd_same]
      · rw [upd_ne n2] at n1
        exact n1
      · rw [upd_ne n2] at n1
        rw [made_one na n2]
        obtain ⟨R2, e2⟩ := R1.made (o := .xd [(fl, v)]) n1
        exact lx ⟨D, [(fl, dd)]⟩ ρ1 _ σ dx _ R2 ⟨[(fl, v)], upd_same, .cons ⟨rfl, rv.mono e2⟩ .nil⟩ hx
end Tr
set_option Elab.async false
set_option linter.all false
set_option maxRecDepth 100000
namespace Tr
open PySem PySem.Spec PyProof.Rows L2 Evl Kc Kz Kx
def Ent.atG (E : Ent) (G : Hp) : Ent := { E with G0 := G }
section
variable {K : PySem.W.Frag} {E : Ent} {ρ ρ' : S} {G G' H H' : Hp} {σ σ' : L2.St} {a : AV} {v : V}
theorem Rel.atG (r : Rel K E ρ G σ H) : Rel K (E.atG G) ρ G σ H := ⟨r.sub, r.len, r.slot, r.apart, r.mine, r.par, Ex.refl G, fun b o h => .inl h, r.but, r.live, r.h0p, r.frm, r.fno, r.gno⟩
theorem Rel.ofG (r0 : Rel K E ρ G σ H) (r : Rel K (E.atG G) ρ' G' σ' H') : Rel K E ρ' G' σ' H' ∧ Ex G G' :=
  ⟨⟨r.sub, r.len, r.slot, r.apart, r.mine, r.par, r0.grow.trans r.grow, fun b o h => (r.new b o h).elim (fun z => r0.new b o z) .inr, r.but, r.live, r.h0p, r.frm, r.fno, r.gno⟩, r.grow⟩
end
/-- try: .. except C as e: ..; the body raises errors of the class at C alone, the suite none -/
def sTryAs (i : Nat) (C : Addr) (fb : FS) (fsu : Addr → Addr → FS) : FS := fun ρ N _ => fb ρ N fun c ρ1 => c.cls = C ∧ ∀ a dd, fsu a dd (ρ1.set i (some (.exn a C dd c.fs))) { nx := fun ρ' => N.nx (ρ'.set i none), rt := N.rt, bk := fun ρ' => N.bk (ρ'.set i none), ct := fun ρ' => N.ct (ρ'.set i none) } noX
theorem ts_tryAs {X : Cx} {x n : Str} {C : Addr} {body suite : List Stmt} {b₀ : Stmt} {np pos pos' : Pos} {fb : FS} {fsu : Addr → Addr → FS} (i : Nat) (hs : X.stack = X.env :: X.outer) (hf : X.env.frame = some X.env.locals) (hN : X.N.Nodup) (hi : X.N[i]? = some n) (hln : X.env.kindOf n = some .local) (gE : Gl X x) (mE : X.mg x = some (.ref C)) (te : PySem.W.exmOne X.K (.ref C) (.ref C) = some true)
    (hb : ∀ (pn : List (Addr × Obj)) (xe : Value → Shared → Prop), TrB (X.tr pn xe) body fb)
    (hsu : ∀ (a dd : Addr) (oe : Obj) (pn : List (Addr × Obj)), Zc (.ref C) (some dd) oe → (∃ vs, oe.data = .fields vs) → TrB (X.suite a ((a, oe) :: pn)) (b₀ :: suite) (fsu a dd)) (hdb : (x == ("__debug__" : Str)) = false := by decide) :
    TrS X (.Try body [.ExceptHandler (some (.Name x np)) (some n) (b₀ :: suite) pos'] [] [] pos) (sTryAs i C fb fsu) := by
  intro W E ρ G σ H M N y tk R lx lk hfm pins s I
  refine (L2.ps_try_as (Wout := fun _ _ _ _ => False) (c := .ref C) (i := i) (tb := fun W D σ H => ∀ (pn : List (Addr × Obj)) (xe : Value → Shared → Prop), L2.Takes (X.tr pn xe) W → wB (X.tr pn xe) body D σ H) (ts := fun a cls d D σ H => ∀ (oe : Obj) (pn : List (Addr × Obj)), Zc cls d oe → (∃ vs, oe.data = .fields vs) → wB (X.suite a ((a, oe) :: pn)) (b₀ :: suite) D σ H)
    hs hf hN hi hln ⟨gE, hdb, .inl mE⟩ takes0 (fun W pn xe tk' _ => ⟨fun pins s σ H D I h => h pn xe tk' pins s I⟩) (fun a oe cls d pn hz hfd => ⟨fun pins s σ H D I h => h oe pn hz hfd pins s I⟩)).run pins s σ H M I ?_
  intro pn xe tk'
  refine hb pn xe _ (E.atG G) ρ G σ H M N _ ⟨wide tk', tk.2⟩ R.atG (fun c ρ1 G1 σ1 dd H1 R1 xr hx => ?_) ⟨fun ρ' G' σ' H' e R' h => lk.nx ρ' G' σ' H' e (R.ofG R').1 h, fun a ρ' G' σ' v H' e R' q h => lk.rt a ρ' G' σ' v H' e (R.ofG R').1 q h, fun ρ' G' σ' H' e R' h => lk.bk ρ' G' σ' H' e (R.ofG R').1 h, fun ρ' G' σ' H' e R' h => lk.ct ρ' G' σ' H' e (R.ofG R').1 h⟩ hfm
  obtain ⟨ec, hx⟩ := hx
  obtain ⟨R1, e1⟩ := R.ofG R1
  rw [ec]
  refine ⟨true, te, fun _ a na oe pn2 hz hfd => ?_, fun z => nomatch z⟩
  have R2 : Rel X.K E (ρ1.set i (some (.exn a C dd c.fs))) G1 (σ1.set i (some (.ref a))) H1 := R1.put (a := .exn a C dd c.fs) ⟨rfl, xr⟩ rfl fun z => by cases z
  exact hsu a dd oe pn2 hz hfd _ E _ G1 _ H1 { nx := fun σ' H' => M.nx (σ'.set i none) H', rt := M.rt, bk := fun σ' H' => M.bk (σ'.set i none) H', ct := fun σ' H' => M.ct (σ'.set i none) H' } { nx := fun ρ' => N.nx (ρ'.set i none), rt := N.rt, bk := fun ρ' => N.bk (ρ'.set i none), ct := fun ρ' => N.ct (ρ'.set i none) } noX ⟨tk0, tk.2⟩ R2 lkx0 ⟨fun ρ' G' σ' H' e R' h => lk.nx _ G' _ H' (e1.trans e) R'.forget h, fun b ρ' G' σ' v H' e R' q h => lk.rt b ρ' G' σ' v H' (e1.trans e) R' q h, fun ρ' G' σ' H' e R' h => lk.bk _ G' _ H' (e1.trans e) R'.forget h, fun ρ' G' σ' H' e R' h => lk.ct _ G' _ H' (e1.trans e) R'.forget h⟩ (hx a dd)
section
variable {X : Cx} {i : Nat} {a C dd : Addr} {oe : Obj} {pn : List (Addr × Obj)} {e n : Str} {ce : Expr} {ces : List Expr} {cv : V} {cvs : List V} {u : Value} {us : List Value} {b : Bool} {p p0 p1 p2 pos : Pos} {kk : Nat}
def isExn (ρ : S) (i : Nat) (a C dd : Addr) (k : List (Str × D) → Prop) : Prop :=
  match ρ[i]? with
  | some (some (.exn a' C' dd' fs)) => (a' = a ∧ C' = C ∧ dd' = dd) ∧ k fs
  | _ => False
theorem isExn_of {ρ : S} {k : List (Str × D) → Prop} (h : isExn ρ i a C dd k) : ∃ fs, ρ[i]? = some (some (.exn a C dd fs)) ∧ k fs := by
  unfold isExn at h
  split at h
  · rename_i a' C' dd' fs q
    obtain ⟨⟨rfl, rfl, rfl⟩, h⟩ := h
    exact ⟨fs, q, h⟩
  · exact h.elim
theorem Rel.exnAt {K : PySem.W.Frag} {E : Ent} {ρ : S} {G H : Hp} {σ : L2.St} {fs : List (Str × D)} (r : Rel K E ρ G σ H) (h : ρ[i]? = some (some (.exn a C dd fs))) : σ[i]? = some (some (.ref a)) ∧ ∃ vs, G dd = some (.xd vs) ∧ Flds K G vs fs := by
  obtain ⟨v, q, hh⟩ := r.slot i _ h
  obtain ⟨rfl, vs, h1, h2⟩ := hh
  exact ⟨q, vs, h1, h2⟩
def fIsX (i : Nat) (a C dd : Addr) (b : Bool) : FE := fun ρ k _ => isExn ρ i a C dd fun _ => k (.dat (.bool b)) ρ
theorem xe_isX (hz : Zc (.ref C) (some dd) oe) (hf : ∃ vs, oe.data = .fields vs) (hg : Gl (X.suite a ((a, oe) :: pn)) "isinstance") (hm : X.mg "isinstance" = none) (ps : PE (X.suite a ((a, oe) :: pn)) (.Name e p0) (tVar i)) (pc : PE (X.suite a ((a, oe) :: pn)) ce (tC cv)) (cl : ClsV cv u) (ec : ExcC X.K C) (ki : PySem.W.kitOne X.K (.ref C) u = some b)
    (hs : starEach [.Name e p0, ce] X.env = (false, eval (.Name e p0) X.env) :: starEach [ce] X.env := by rfl) (hs2 : starEach [ce] X.env = (false, eval ce X.env) :: starEach [] X.env := by rfl) (hpl : (backTo pos (starEach [ce] X.env)).any (·.1) = false := by rfl) : TrE (X.suite a ((a, oe) :: pn)) (.Call (.Name "isinstance" p) [.Name e p0, ce] [] pos) (fIsX i a C dd b) :=
  .of (pe_callB (call_isX hz hf) hg hm (by decide +kernel) (pa_cons ps (pa_cons pc pa_nil hs2) hs) (he := hs) (hpl := hpl)) fun W E ρ G σ H Q k x tk R lx lk h => by
  obtain ⟨fs, q, h⟩ := isExn_of h
  obtain ⟨q1, vs, g, _⟩ := R.exnAt q
  exact ⟨.ref a, q1, cv, u, C, dd, vs, b, rfl, cl, rfl, rfl, ec, R.sub _ _ g, ki, lk (.dat (.bool b)) ρ G _ H (Ex.refl G) R (.dat (.bl b)) h⟩
theorem cla_cons {Y : Cx} (h : PE Y ce (tC cv)) (t : PA Y ces fun _ H Q => Q cvs H) (hs : starEach (ce :: ces) Y.env = (false, eval ce Y.env) :: starEach ces Y.env := by rfl) : PA Y (ce :: ces) fun _ H Q => Q (cv :: cvs) H := pa_cons h t hs
theorem cla_nil {Y : Cx} : PA Y [] fun _ H Q => Q [] H := pa_nil
theorem xe_isXT (hz : Zc (.ref C) (some dd) oe) (hf : ∃ vs, oe.data = .fields vs) (hg : Gl (X.suite a ((a, oe) :: pn)) "isinstance") (hm : X.mg "isinstance" = none) (ps : PE (X.suite a ((a, oe) :: pn)) (.Name e p0) (tVar i)) (pc : PA (X.suite a ((a, oe) :: pn)) ces fun _ H Q => Q cvs H) (hl : cvs.length ≤ sizeLine) (cl : Paired ClsV cvs us) (ec : ExcC X.K C) (ki : PySem.W.kitAny X.K (.ref C) us = some b)
    (hs : starEach [.Name e p0, .Tuple ces kk p1] X.env = (false, eval (.Name e p0) X.env) :: starEach [.Tuple ces kk p1] X.env := by rfl) (hs2 : starEach [.Tuple ces kk p1] X.env = (false, eval (.Tuple ces kk p1) X.env) :: starEach [] X.env := by rfl) (hpl : (backTo pos (starEach [.Tuple ces kk p1] X.env)).any (·.1) = false := by rfl) : TrE (X.suite a ((a, oe) :: pn)) (.Call (.Name "isinstance" p) [.Name e p0, .Tuple ces kk p1] [] pos) (fIsX i a C dd b) :=
  .of (pe_callB (call_isXT hz hf) hg hm (by decide +kernel) (pa_cons ps (pa_cons (pe_tup pc) pa_nil hs2) hs) (he := hs) (hpl := hpl)) fun W E ρ G σ H Q k x tk R lx lk h => by
  obtain ⟨fs, q, h⟩ := isExn_of h
  obtain ⟨q1, vs, g, _⟩ := R.exnAt q
  refine ⟨.ref a, q1, hl, fun tp nt => ?_⟩
  have R2 := R.alloc (o := .tup cvs) nt
  exact ⟨tp, cvs, us, C, dd, vs, b, rfl, upd_same, cl, rfl, rfl, ec, R2.sub _ _ g, ki, lk (.dat (.bool b)) ρ G _ _ (Ex.refl G) R2 (.dat (.bl b)) h⟩
def fXf (i : Nat) (a C dd : Addr) (n : Str) : FE := fun ρ k _ => isExn ρ i a C dd fun fs => ∃ d, fs.lookup n = some d ∧ k (.dat d) ρ
theorem xe_xf (T : XfC X.K C) (hno : PySem.W.findIn X.K (.ref C) n = some none) (hz : Zc (.ref C) (some dd) oe) (hf : ∃ vs, oe.data = .fields vs) (ps : PE (X.suite a ((a, oe) :: pn)) (.Name e p0) (tVar i)) (hb : attributeBase (.Name e p0) n X.env (eval (.Name e p0) X.env) = eval (.Name e p0) X.env := by rfl) :
    TrE (X.suite a ((a, oe) :: pn)) (.Attribute (.Name e p0) n pos) (fXf i a C dd n) := .of (pe_xf T hno hz hf ps hb) fun W E ρ G σ H Q k x tk R lx lk h => by
  obtain ⟨fs, q, d, hd, h⟩ := isExn_of h
  obtain ⟨q1, vs, g, fl⟩ := R.exnAt q
  obtain ⟨v, hv, rv⟩ := flds_look fl hd
  exact ⟨.ref a, q1, rfl, rfl, dd, vs, v, rfl, R.sub _ _ g, hv, lk (.dat d) ρ G v H (Ex.refl G) R (.dat rv) h⟩
end
end Tr
set_option Elab.async false
set_option linter.all false
set_option maxRecDepth 100000
namespace Kx
open PySem PySem.Spec PyProof.Rows L2
end Kx
namespace Tr
open PySem PySem.Spec PyProof.Rows L2 Evl Kc Kz Kx
end Tr
set_option Elab.async false
set_option linter.all false
set_option maxRecDepth 100000
namespace Tr
open PySem PySem.Spec PyProof.Rows L2 Evl Kc Kz Kx
def swp {α : Type} : List α → List α
  | [a, b] => [b, a]
  | _ => []
section
variable {X : Cx} {CX : CXT} {k n : Nat} {f : Addr} {fd : FuncData} {ps ks : List Str} {sp : Sp} {E : L2.St → XK} {x a b : Str} {p pos kp1 kp2 : Pos} {e1 e2 : Expr} {fa fb : FE} {F : FD} {kws : List Keyword} {tk : TA}
  {g : List Value → List Value → List Value} {gV : List V → List V → List V}
/-- the arguments in the other order -/
def fSwp (fr : FA) : FA := fun ρ k x => fr ρ (fun as ρ1 => k (swp as) ρ1) x
end
def fApN (fa : FE) : FE := fun ρ k x => fa ρ (fun a ρ1 => match a with | .own false (.list ds) => ds.length < sizeLine ∧ k (.dat .none) ρ1 | _ => False) x
def sPutL (i j : Nat) (fe : FE) : FS := fun ρ N x => fe ρ (fun a ρ1 => fz a fun a' => match a' with
  | .dat d => ownL ρ1 i fun b ds => b = false ∧ ∃ n : Nat, ρ1[j]? = some (some (.dat (.int n))) ∧ n < ds.length ∧ N.nx (ρ1.set i (some (.own false (.list (ds.set n d)))))
  | _ => False) x
end Tr
set_option Elab.async false
set_option linter.all false
set_option maxRecDepth 100000
namespace Tr
open PySem PySem.Spec PyProof.Rows L2 Evl Kc Kz Kx
section
variable {X : Cx} {CX : CXT} {k n : Nat} {f C : Addr} {fd : FuncData} {ps : List Str} {sp : Sp} {E : L2.St → XK} {x self fl : Str} {p pos : Pos} {e : Expr} {es : List Expr} {t : TA} {F : FJ} {fr : FA}
def tMkS (C : Addr) (sp : Sp) (E : L2.St → XK) (t : TA) : TE := fun σ H Q => t σ H fun zs H1 => ∀ q dx, H1 q = none → H1 dx = none → dx ≠ q → sp (.ref q :: zs) (upd (upd H1 dx (.own q)) q (.ins C dx [])) (fun r H2 => r = .non ∧ Q (.ref q) H2) (E σ)
theorem run_mkS {pins : List (Addr × Obj)} {σ : L2.St} {H : Hp} {s : Shared} {Q : VK} {ws : List Value} {zs : List V} (M : Mk X.K C f) (Fn : FnOk X.prog X.w X.K X.mg X.base CX k f fd ps sp) (room : Room (k + 1) X.A) (bd : Binds X.K fd ps []) (pass : PassesAt CX X σ (E σ)) (I : Inv X pins σ H s) (rz : Vals zs ws)
    (want : ∀ q dx, H q = none → H dx = none → dx ≠ q → sp (.ref q :: zs) (upd (upd H dx (.own q)) q (.ins C dx [])) (fun r H2 => r = .non ∧ Q (.ref q) H2) (E σ)) : wpAny (model X.prog X.w) X.A (call (.ref C) ws) (EP X pins σ Q) X.xe s := by
  have w2 := want (s.heap.objs.size + 1) s.heap.objs.size (I.hok.fresh (Nat.le_add_right _ 1)) (I.hok.fresh (Nat.le_refl _)) (Nat.ne_of_lt (Nat.lt_add_one _))
  have J := Inv.made (C := C) I
  have rr : Vals (V.ref (s.heap.objs.size + 1) :: zs) (Value.ref (s.heap.objs.size + 1) :: ws) := .cons rfl rz
  have ln : (Value.ref (s.heap.objs.size + 1) :: ws).length = ps.length := rr.length.symm.trans (Fn.len _ _ _ _ w2)
  have bb := bd _ (Value.ref (s.heap.objs.size + 1) :: ws) J.kIn (by rw [List.append_nil]; exact ln)
  rw [List.append_nil] at bb
  have go := Fn.run _ X.stack _ _ ⟨Value.ref (s.heap.objs.size + 1) :: ws, []⟩ _ _ _ (E σ) (room.make C ws []) (J.env0.make C ws []) bb rr w2
  refine wpAny_call (make_map (f := f) I.kIn M.makes M.init (beq_iff_eq.mp M.fn) (codeAny_mono go fun r s' post => ?_))
  match r, post with
  | .error er, post => exact pass pins _ _ er s' J post
  | .ok (.ret u), post =>
    obtain ⟨r2, H', J2, rel, er, q2⟩ := J.after post
    cases er
    exact ⟨rel, .ref (s.heap.objs.size + 1), H', J2, rfl, q2⟩
  | .ok .next, post => exact post.elim
  | .ok .brk, post => exact post.elim
  | .ok .cont, post => exact post.elim
theorem pe_mkS (M : Mk X.K C f) (Fn : FnOk X.prog X.w X.K X.mg X.base CX k f fd ps sp) (room : Room (k + 1) X.A) (hg : Gl X x) (hm : X.mg x = some (.ref C)) (bd : Binds X.K fd ps []) (pass : ∀ σ, PassesAt CX X σ (E σ)) (ha : PA X (e :: es) t)
    (hdb : (x == ("__debug__" : Str)) = false := by decide) (he : starEach (e :: es) X.env = (false, eval e X.env) :: starEach es X.env := by rfl) (hpl : (backTo pos (starEach es X.env)).any (·.1) = false := by rfl) : PE X (.Call (.Name x p) (e :: es) [] pos) (tMkS C sp E t) :=
  ⟨fun pins s σ H Q I want => wpAny_Call_Name_kw (ld_glob I hg hm (PySem.W.callWith_K (h₀ := X.base) I.ok.mod.kin M.kp (thn (ha.run pos pins s σ H _ I want) fun ws s1 ⟨zs, H1, J, rz, w2⟩ => ⟨J.kIn, run_mkS M Fn room bd (pass σ) J rz w2⟩) he hpl) hdb)⟩
/-- C(e, ..), the errors of __init__ let out -/
def fMkX (C : Addr) (fl : Str) (n : Nat) (F : FJ) (fr : FA) : FE := fun ρ k x => fr ρ (fun as ρ1 => argK ρ1 as fun bs w => w = false ∧ (bs.filter AV.isOwn).length = 0 ∧ bs.length = n ∧ F bs (fun d => k (.obj C [(fl, d)]) ρ1) fun c => x c ρ1) x
theorem xe_mkX (M : Mk X.K C f) (Fn : FnOk X.prog X.w X.K X.mg X.base (CXL X.prog X.w X.mg) k f fd (self :: ps) (spI X.K C fl n F)) (room : Room (k + 1) X.A) (hg : Gl X x) (hm : X.mg x = some (.ref C)) (bd : Binds X.K fd (self :: ps) []) (ha : TrA X (e :: es) fr) (hdb : (x == ("__debug__" : Str)) = false := by decide)
    (he : starEach (e :: es) X.env = (false, eval e X.env) :: starEach es X.env := by rfl) (hpl : (backTo pos (starEach es X.env)).any (·.1) = false := by rfl) : TrE X (.Call (.Name x p) (e :: es) [] pos) (fMkX C fl n F fr) := fun W E ρ G σ H Q k x tk R lx lk hf pins s I => by
  refine (pe_mkS (E := WE W) M Fn room hg hm bd (fun σ => passT tk.1 σ) pa_w hdb he hpl).run pins s σ H Q I ?_
  refine ha W E ρ G σ H _ _ x tk R lx (fun as ρ1 G1 vs H1 e1 R1 q1 h1 => fun q dx nq ndx ne => ?_) hf
  obtain ⟨bs, w, p1, p2, p3, p4, hw, no, hl, h1⟩ := argK_of R1 (Lent ρ1 σ as) (fun q z => z) (fun q z => by obtain ⟨i, b, d, _, z2, z3⟩ := z; exact ⟨i, b, d, z2, z3⟩) (lend_ex R1) q1 h1
  have same : lend (Lent ρ1 σ as) G1 H1 = G1 := funext fun q => lend_out (p4 hw q)
  rw [same] at p1
  have flat : ∀ a ∈ bs, a.isOwn = false := fun a hm => by
    cases o : a.isOwn with
    | false => rfl
    | true =>
      have := List.length_pos_of_mem (List.mem_filter.mpr ⟨hm, o⟩)
      omega
  have g0 := R1.g0 nq
  have s1 : Ex H1 (upd (upd H1 dx (.own q)) q (.ins C dx [])) := fun b o h => by
    rw [upd_ne (ne_of_none h nq), upd_ne (ne_of_none h ndx)]
    exact h
  have hold : Paired (fun a v => Hold X.K G1 (upd (upd H1 dx (.own q)) q (.ins C dx [])) a v) bs vs := by
    have gen : ∀ {bs : List AV} {vs : List V}, (∀ a ∈ bs, a.isOwn = false) → Paired (fun a v => Hold X.K G1 H1 a v) bs vs → Paired (fun a v => Hold X.K G1 (upd (upd H1 dx (.own q)) q (.ins C dx [])) a v) bs vs := by
      intro bs vs fl pr
      induction pr with
      | nil => exact .nil
      | cons h t ih => exact .cons (h.still (Ex.refl _) (fl _ List.mem_cons_self)) (ih fun a ha => fl a (List.mem_cons_of_mem _ ha))
    exact gen flat p1
  have nops : potPs bs vs = [] := by
    cases z : potPs bs vs with
    | nil => rfl
    | cons y ys =>
      obtain ⟨j, b, h1, _⟩ := mem_potPs.mp (show y ∈ potPs bs vs by rw [z]; exact List.mem_cons_self)
      have := flat _ (List.mem_of_getElem? h1)
      cases this
  -- what both ends give
  have ends : ∀ {G' H' : Hp}, Ex G' H' → Ex G1 G' → (∀ b o, G' b = some o → G1 b = some o ∨ upd (upd H1 dx (.own q)) q (.ins C dx []) b = none) → Kept (TN X.K) (q :: potPs bs vs) (upd (upd H1 dx (.own q)) q (.ins C dx [])) H' → (∀ b qs, G' b ≠ some (.tbl qs)) → Rel X.K E ρ1 G' σ H' := by
    intro G' H' sub grow new but gn
    rw [nops] at but
    have but' : Kept (TN X.K) [] H1 H' := (but.under s1).fresh nq
    have gnew : ∀ b o, G' b = some o → G1 b = some o ∨ H1 b = none := fun b o h => by
      rcases new b o h with y | y
      · exact .inl y
      · refine .inr ?_
        cases z : H1 b with
        | none => rfl
        | some o => rw [s1 b o z] at y; cases y
    have gone : ∀ {b : Addr}, G1 b = none → H1 b ≠ none → G' b = none := fun {b} g h => by
      cases z : G' b with
      | none => rfl
      | some o =>
        rcases gnew b o z with y | y
        · rw [g] at y; cases y
        · exact absurd y h
    have at_ : ∀ {b : Addr}, H1 b ≠ none → Soft H1 b → H' b = H1 b := fun {b} h m => but'.keep nofun h m
    refine ⟨sub, R1.len, fun i a h => ?_, R1.apart, R1.mine, R1.par, R1.grow.trans grow, fun b o h => ?_, R1.but.then but' nofun, fun p hp => pot_at (R1.live p hp) (at_ (pot_some (R1.live p hp)) (pot_mut (R1.live p hp))), R1.h0p, fun b o h => ?_, R1.fno, gn⟩
    · obtain ⟨v, ev, hh⟩ := R1.slot i a h
      refine ⟨v, ev, ?_⟩
      cases ho : a.isOwn with
      | false => exact hh.still grow ho
      | true =>
        obtain ⟨p, rfl, gp, st⟩ := hh.own ho
        exact Hold.of_own ho (gone gp st.some) (st.mono grow (at_ st.some st.mut))
    · rcases gnew b o h with y | y
      · exact R1.new b o y
      · exact .inr (R1.h0 y)
    · obtain ⟨h1, h2, h3⟩ := R1.frm b o h
      exact ⟨but'.but b o nofun h1 (fun qs e => R1.fno b qs (by rw [h, e])), gone h2 (by rw [h1]; exact nofun), h3⟩
  refine ⟨q, dx, vs, G1, bs, _, _, rfl, hl, R1.sub.trans s1, g0, upd_same, ⟨hold, (fun a ha o => by rw [flat a ha] at o; cases o), (fun i j a b v n h1 h2 o1 _ _ _ => by rw [flat a (List.mem_of_getElem? h1)] at o1; cases o1), R1.gno⟩, h1, fun d v G' H' sub grow new but gn _ gp hp rv hk => ⟨rfl, ?_⟩, fun c G' dd H' sub grow new but gn _ xr hx => lx c ρ1 G' σ dd H' (ends sub grow new but gn) xr hx⟩
  obtain ⟨R3, e3⟩ := (ends sub grow new but gn).freeze hp (R1.loose nq) gp ⟨R1.h0 nq, R1.f0 nq⟩
  exact lk (.obj C [(fl, d)]) ρ1 _ _ H' ((e1.trans grow).trans e3) R3 (.inr (.inl ⟨rfl, q, dx, _, rfl, upd_same, .cons ⟨rfl, rv.mono e3⟩ .nil⟩)) hk
end
section
variable {X : Cx} {P : Program} {w : World} {K : PySem.W.Frag} {mg : Str → Option Value} {base : Heap} {C : Addr} {lv k : Nat} {Fi : FJ} {Fl Ff : FD} {e : Expr} {fr : FA} {p pos : Pos}
theorem xe_mkXS (d : SchF P w K mg base C lv Fi Fl Ff) (i : In X P w K mg base) (hr : Room k X.A) (hk : lv + 1 ≤ k) (hg : Gl X "Schema") (ha : TrA X [e] fr) (he : starEach [e] X.env = (false, eval e X.env) :: starEach [] X.env := by rfl) :
    TrE X (.Call (.Name "Schema" p) [e] [] pos) (fMkX C "rows" 1 Fi fr) := by
  obtain ⟨rfl, rfl, rfl, rfl, rfl⟩ := i
  obtain ⟨f, fd, m, ok, b⟩ := d.init
  exact xe_mkX m ok (hr.mono hk) hg d.mgC b ha (by decide) he rfl
end
structure Er2 (P : Program) (w : World) (K : PySem.W.Frag) (mg : Str → Option Value) (base : Heap) (c : Str) (D : Addr) (fl fl2 x x2 : Str) (lv : Nat) : Prop where
  T : ∃ (B newId initId : String) (tail : List Value), OexB K D B newId initId tail
  mgE : mg c = some (.ref D)
  ini : ∃ fI fd, PySem.W.findIn K (.ref D) "__init__" = some (some (.ref fI)) ∧ PySem.W.typeIn K (.ref fI) = some (.type "function") ∧ FnOk P w K mg base CX0 lv fI fd ["self", x, x2] (spErr2 D fl fl2 spKf) ∧ Binds K fd ["self", x, x2] []
def sRaise2 (D : Addr) (fl fl2 : Str) (fr : FA) : FS := fun ρ _ x => fr ρ (fun as ρ1 => dats as fun ds => match ds with | [d, e] => flatD d = true ∧ flatD e = true ∧ x ⟨D, [(fl2, e), (fl, d)]⟩ ρ1 | _ => False) x
theorem made_pair2 {H : Hp} {a dx D : Addr} {fs gs : List (Str × V)} (na : H a = none) (nd : dx ≠ a) : upd (del (upd (upd (upd (upd H a (exo a D none)) dx (exd dx fs)) a (exo a D (some dx))) dx (exd dx gs)) a) dx (.xd gs) = upd H dx (.xd gs) := by
  funext b
  by_cases h1 : b = dx
  · rw [h1, upd_same, upd_same]
  · rw [upd_ne h1, upd_ne h1]
    by_cases h2 : b = a
    · rw [h2, del_same, na]
    · rw [del_ne h2, upd_ne h1, upd_ne h2, upd_ne h1, upd_ne h2]
theorem ts_raise2 {X : Cx} {P : Program} {w : World} {K : PySem.W.Frag} {mg : Str → Option Value} {base : Heap} {c x x2 fl fl2 : Str} {D : Addr} {lv k : Nat} {e1 e2 : Expr} {fr : FA} {p pos rpos : Pos} (d : Er2 P w K mg base c D fl fl2 x x2 lv) (i : In X P w K mg base) (hc : X.calm = true) (hr : Room k X.A) (hk : lv + 1 ≤ k) (hg : Gl X c) (ha : TrA X [e1, e2] fr)
    (hdb : (c == ("__debug__" : Str)) = false := by decide) (he : starEach [e1, e2] X.env = (false, eval e1 X.env) :: starEach [e2] X.env := by rfl) (hpl : (backTo pos (starEach [e2] X.env)).any (·.1) = false := by rfl) : TrS X (.Raise (some (.Call (.Name c p) [e1, e2] [] pos)) none rpos) (sRaise2 D fl fl2 fr) := by
  obtain ⟨rfl, rfl, rfl, rfl, rfl⟩ := i
  obtain ⟨fI, fd, iC, tI, ok, bd⟩ := d.ini
  obtain ⟨_, _, _, _, T⟩ := d.T
  intro W E ρ G σ H M N y tk R lx lk hf pins s I
  refine (L2N.ps_raise hc tk.1.1 (pmk_oexb T iC tI ok (hr.mono hk) bd .nil pass0 hg d.mgE pa_w hdb he hpl)).run pins s σ H M I ?_
  refine ha W E ρ G σ H _ _ y tk R lx (fun as ρ1 G1 vs H1 e1 R1 q1 h1 => ?_) hf
  obtain ⟨ds, rp, h1⟩ := dats_rps q1 h1
  match ds, vs, rp, h1 with
  | [dd, ee], [v, u], .cons rv (.cons ru .nil), h1 =>
    obtain ⟨f1, f2, hx⟩ := h1
    refine ⟨by show 2 ≤ 1000; decide, fun a na => ⟨a, v, u, rfl, upd_same, v, 5, rfl, flatV_of rv f1, upd_same, fun dx n1 n2 => ⟨u, 5, rfl, flatV_of ru f2, upd_same, (upd_ne n2).trans upd_same, ⟨rfl, dx, [(fl2, u), (fl, v)], ?_, upd_same, ?_, ?_⟩⟩⟩⟩
    · rw [upd_ne (Ne.symm n2), upd_same]
    · rw [upd_ne n2] at n1
      exact n1
    · rw [upd_ne n2] at n1
      rw [made_pair2 na n2]
      obtain ⟨R2, e2⟩ := R1.made (o := .xd [(fl2, u), (fl, v)]) n1
      exact lx ⟨D, [(fl2, ee), (fl, dd)]⟩ ρ1 _ σ dx _ R2 ⟨[(fl2, u), (fl, v)], upd_same, .cons ⟨rfl, ru.mono e2⟩ (.cons ⟨rfl, rv.mono e2⟩ .nil)⟩ hx
end Tr
set_option Elab.async false
set_option linter.all false
set_option maxRecDepth 100000
namespace Mg
open PySem PySem.Spec PyProof.Rows L2 Evl Kc Kz Kx Tr
abbrev Row := Str × Str
def rowD (r : Row) : D := .tuple [.str r.1, .str r.2]
abbrev flD (rows : List Row) : D := .list (rows.map rowD)
def isC (k : Str) : Bool := decide (k = "counter")
structure RowsOk (rows : List Row) (a b : Nat) : Prop where
  nd : (rows.map (·.1)).Nodup
  nm : ∀ r ∈ rows, wordB (.str r.1) = true
  kd : ∀ r ∈ rows, r.2 = "mine" ∨ r.2 = "theirs" ∨ r.2 = "counter"
  cs : (rows.filter fun r => isC r.2).length = b
  ls : (rows.filter fun r => !isC r.2).length = a
theorem RowsOk.len {rows : List Row} {a b : Nat} (h : RowsOk rows a b) : rows.length = a + b := by
  have key : ∀ l : List Row, l.length = (l.filter fun r => !isC r.2).length + (l.filter fun r => isC r.2).length := fun l => by
    induction l with
    | nil => rfl
    | cons r l ih =>
      rw [List.filter_cons, List.filter_cons, List.length_cons, ih]
      cases isC r.2
      · show _ = (r :: _).length + _
        rw [List.length_cons]
        simp only [if_false, Bool.false_eq_true]
        omega
      · show _ = _ + (r :: _).length
        rw [List.length_cons]
        simp only [if_false, Bool.false_eq_true, Bool.not_true]
        omega
  rw [key rows, h.cs, h.ls]
/-- a value of a field of kind k, ints of less than n bits -/
def ValOk (n : Nat) (k : Str) : D → Prop
  | .int i => k = "counter" ∧ i.natAbs < 2 ^ n
  | .str z => k ≠ "counter" ∧ wordB (.str z) = true
  | _ => False
/-- a version, ints of less than n bits -/
inductive VerOk (n : Nat) : List Row → List D → Prop
  | nil : VerOk n [] []
  | cons {r : Row} {d : D} {rs : List Row} {ds : List D} : ValOk n r.2 d → VerOk n rs ds → VerOk n (r :: rs) (d :: ds)
theorem ValOk.up {n m : Nat} {k : Str} {d : D} (h : ValOk n k d) (l : n ≤ m) : ValOk m k d := by
  cases d <;> first
    | exact h.elim
    | exact ⟨h.1, Nat.lt_of_lt_of_le h.2 (Nat.pow_le_pow_right (by decide) l)⟩
    | exact h
theorem VerOk.up {n m : Nat} (l : n ≤ m) : ∀ {rs : List Row} {ds : List D}, VerOk n rs ds → VerOk m rs ds
  | _, _, .nil => .nil
  | _, _, .cons h t => .cons (h.up l) (VerOk.up l t)
theorem VerOk.len {n : Nat} : ∀ {rs : List Row} {ds : List D}, VerOk n rs ds → rs.length = ds.length
  | _, _, .nil => rfl
  | _, _, .cons h t => congrArg (· + 1) (VerOk.len t)
theorem VerOk.get {n : Nat} : ∀ {rs : List Row} {ds : List D} {i : Nat} {r : Row}, VerOk n rs ds → rs[i]? = some r → ∃ d, ds[i]? = some d ∧ ValOk n r.2 d
  | _, _, i, _, .nil, e => by cases i <;> cases e
  | _, _, 0, _, .cons h _, e => by cases Option.some.inj e; exact ⟨_, rfl, h⟩
  | _, _, i + 1, _, .cons _ t, e => VerOk.get (i := i) t e
def pv (k : Str) : D → D → D → D
  | .int x, .int b, .int y => .int (x + y - b)
  | .str x, .str b, .str y => if k = "mine" then (if x = b then .str y else .str x) else (if y = b then .str x else .str y)
  | _, _, _ => .none
mutual
def wt : D → Nat
  | .none => 4
  | .bool _ => 5
  | .int _ => 1922
  | .str x => 10 * x.length + 2
  | .list xs => 4 + wts xs
  | .tuple xs => 4 + wts xs
  | .dict _ => 0
def wts : List D → Nat
  | [] => 0
  | x :: xs => wt x + 2 + wts xs
end
theorem str_len_app (a b : Str) : (a ++ b).length = a.length + b.length := by
  show (a.cps ++ b.cps).size = a.cps.size + b.cps.size
  exact Array.size_append
theorem text_le : ∀ (ts : List Str) (k : Nat) (acc : Str), (textFrom k acc ts).length ≤ acc.length + piled ts
  | [], _, acc => Nat.le_add_right _ _
  | t :: r, k, acc => by
    rw [piled_cons]
    have h := text_le r (k + 1) (acc ++ (if k > 0 then ", " else "" : String) ++ t)
    have e : (acc ++ ((if k > 0 then ", " else "" : String) : Str) ++ t).length ≤ acc.length + 2 + t.length := by
      rw [str_len_app, str_len_app]
      have : ((if k > 0 then ", " else "" : String) : Str).length ≤ 2 := by split <;> decide
      omega
    show (textFrom (k + 1) (acc ++ ((if k > 0 then ", " else "" : String) : Str) ++ t) r).length ≤ _
    omega
theorem join_le (ts : List Str) : (Str.join ", " ts).length ≤ piled ts := by
  by_cases h : ts = []
  · subst h
    decide
  · have jl := join_length_add ts h
    omega
mutual
theorem shown_le : ∀ d : D, d.canLay0 = true → d.showable = true → d.shown.length ≤ wt d
  | .none, _, _ => by simp only [PyData.shown, wt]; decide
  | .bool b, _, _ => by cases b <;> (simp only [PyData.shown, wt]; decide)
  | .int i, _, h => by
    simp only [PyData.shown, wt]
    simp only [PyData.showable, decide_eq_true_eq] at h
    have := int_text_len_1921 h
    exact Nat.le_succ_of_le this
  | .str x, h, _ => by
    simp only [PyData.shown, wt]
    simp only [PyData.canLay0, PyData.strOk] at h
    refine PySem.StrLaws.reprText_len x fun c hc => ?_
    rw [Array.all_eq_true'] at h
    have := h c (Array.mem_def.mpr hc)
    have : c < 0x110000 := by simpa using this
    omega
  | .list xs, h, g => by
    simp only [PyData.shown, wt]
    simp only [PyData.canLay0] at h
    simp only [PyData.showable] at g
    have h1 := shownAll_le xs h g
    have h2 := text_le (PyData.shownAll xs) 0 "["
    show (textFrom 0 "[" (PyData.shownAll xs) ++ "]").length ≤ _
    rw [str_len_app]
    have : ("[" : Str).length = 1 := rfl
    have : ("]" : Str).length = 1 := rfl
    omega
  | .tuple xs, h, g => by
    simp only [PyData.shown, wt]
    simp only [PyData.canLay0] at h
    simp only [PyData.showable] at g
    have h1 := shownAll_le xs h g
    have h2 := join_le (PyData.shownAll xs)
    show (("(" : Str) ++ Str.join ", " (PyData.shownAll xs) ++ ((if (PyData.shownAll xs).length == 1 then ",)" else ")" : String) : Str)).length ≤ _
    rw [str_len_app, str_len_app]
    have : ("(" : Str).length = 1 := rfl
    have : ((if (PyData.shownAll xs).length == 1 then ",)" else ")" : String) : Str).length ≤ 2 := by split <;> decide
    omega
  | .dict _, h, _ => by simp only [PyData.canLay0] at h; cases h
theorem shownAll_le : ∀ ds : List D, PyData.canLayAll0 ds = true → PyData.showableAll ds = true → piled (PyData.shownAll ds) ≤ wts ds
  | [], _, _ => by simp only [PyData.shownAll, wts]; decide
  | d :: ds, h, g => by
    simp only [PyData.canLayAll0, Bool.and_eq_true] at h
    simp only [PyData.showableAll, Bool.and_eq_true] at g
    simp only [PyData.shownAll, wts]
    rw [piled_cons]
    have h1 := shown_le d h.1 g.1
    have h2 := shownAll_le ds h.2 g.2
    omega
end
end Mg
set_option Elab.async false
set_option linter.all false
set_option maxRecDepth 100000
namespace Mg
open PySem PySem.Spec PyProof.Rows L2 Evl Kc Kz Kx Tr
abbrev tt' : AV := .dat (.bool true)
abbrev word (z : Str) : Prop := wordB (.str z) = true
abbrev sts (ws : List Str) : List D := ws.map PyData.str
abbrev three (k : Str) : Prop := k = "mine" ∨ k = "theirs" ∨ k = "counter"
abbrev schO (C : Addr) (rows : List Row) : AV := .obj C [("rows", .tuple (rows.map rowD))]
def F_word : FD := fun as k _ => ∃ ts : List Str, as = [.pot true, .dat (.list (sts ts))] ∧ ts.length ≤ 25 ∧ ∀ z : Str, word z → z ∉ ts → k (.dat (.str z))
def F_words : FD := fun as k _ => ∃ n : Nat, as = [.pot true, .dat (.int n)] ∧ n ≤ 20 ∧ ∀ ws : List Str, ws.length = n → ws.Nodup → (∀ z ∈ ws, word z) → k (.own false (.list (sts ws)))
def F_mixed : FD := fun as k _ => ∃ ds : List D, as = [.pot true, .dat (.list ds)] ∧ ds.length ≤ 100 ∧ ∀ es : List D, es.Perm ds → k (.own false (.list es))
def F_fields : FD := fun as k _ => ∃ a b : Nat, as = [.pot true, .dat (.int a), .dat (.int b)] ∧ a + b ≤ 20 ∧ ∀ rows, RowsOk rows a b → k (.own false (flD rows))
def F_rows : FD := fun as k _ => ∃ (rows : List Row) (m : Nat) (far : Int), as = [.pot true, .dat (flD rows), .dat (.int m), .dat (.int far)] ∧ rows.length ≤ 20 ∧ (∀ r ∈ rows, three r.2) ∧ 0 < m ∧ m ≤ 60 ∧
  ∀ vs : List (List D), 0 < vs.length → vs.length ≤ m + 1 → (∀ v ∈ vs, VerOk 100 rows v) → k (.own false (.list (vs.map PyData.tuple)))
def F_among : FD := fun as k _ => ∃ ds : List D, as = [.pot true, .dat (.list ds)] ∧ 0 < ds.length ∧ ds.length ≤ 1000 ∧ ∀ d ∈ ds, k (.dat d)
def F_is_name : FD := fun as k _ => ∃ z : Str, as = [.dat (.str z)] ∧ word z ∧ k tt'
def F_field : FD := fun as k _ => ∃ r : Row, as = [.dat (rowD r)] ∧ word r.1 ∧ three r.2 ∧ k tt'
/-- r may come behind rows -/
def Fits (rows : List Row) (r : Row) : Prop := word r.1 ∧ three r.2 ∧ r.1 ∉ rows.map (·.1) ∧ (∀ q ∈ rows, three q.2) ∧ rows.length ≤ 20 ∧ (rows.filter fun q => isC q.2 == isC r.2).length ≠ (if isC r.2 then 4 else 12)
def F_problem : FD := fun as k _ => ∃ (rows : List Row) (r : Row), as = [.dat (rowD r), .dat (flD rows)] ∧ Fits rows r ∧ k (.dat .none)
def F_init : FJ := fun as k _ => ∃ (rows : List Row) (a b : Nat), as = [.dat (flD rows)] ∧ RowsOk rows a b ∧ a ≤ 12 ∧ b ≤ 4 ∧ 0 < a + b ∧ k (.tuple (rows.map rowD))
def F_slen (C : Addr) : FD := fun as k _ => ∃ ds : List D, as = [.obj C [("rows", .tuple ds)]] ∧ k (.dat (.int ds.length))
def F_sflds (C : Addr) : FD := fun as k _ => ∃ ds : List D, as = [.obj C [("rows", .tuple ds)]] ∧ k (.own false (.list ds))
def F_right : FD := fun as k _ => as = [.pot true] ∧ k tt'
def F_law : FD := fun as k _ => ∃ ns : List Int, as = [.scr ns] ∧ k tt'
theorem flds_one (C : Addr) : ∀ (fs : List (Str × D)) k, F_sflds C [.obj C fs] k (fun _ => False) → fs.lookup ("fields" : Str) = none := fun fs k ⟨ds, e, _⟩ => by
  cases e
  rfl
structure CvS (K : PySem.W.Frag) (mg : Str → Option Value) (C : Addr) : Prop where
  mgC : mg "Schema" = some (.ref C)
  cv : ∃ mc u1 u2, ClX.CRead K C mc ∧ ClX.CVal K C mc "MOST_LABELS" (.int 12) u1 ∧ ClX.CVal K C mc "MOST_COUNTERS" (.int 4) u2
structure FlS (K : PySem.W.Frag) (C : Addr) : Prop where
  cl : Cls K C
  nR : NoAttr K C "rows"
end Mg
set_option Elab.async false
set_option linter.all false
set_option maxRecDepth 100000
namespace Mg
open PySem PySem.Spec PyProof.Rows L2 Evl Kc Kz Kx Tr
/-- the field at i is a label field -/
def lab (rows : List Row) (i : Nat) : Bool :=
  match rows[i]? with
  | some r => !isC r.2
  | none => false
def marks (rows : List Row) : List Nat := (List.range rows.length).filter (lab rows)
abbrev iDs (ns : List Nat) : List D := ns.map fun (n : Nat) => PyData.int (n : Int)
def F_marks : FD := fun as k _ => ∃ rows : List Row, as = [.dat (flD rows)] ∧ rows.length ≤ 20 ∧ (∀ r ∈ rows, three r.2) ∧ k (.own false (.list (iDs (marks rows))))
def other (k : Str) : Str := if k = "mine" then "theirs" else if k = "theirs" then "mine" else "counter"
end Mg
set_option Elab.async false
set_option linter.all false
set_option maxRecDepth 100000
namespace Mg
open PySem PySem.Spec PyProof.Rows L2 Evl Kc Kz Kx Tr
def stAt (v : List D) (i : Nat) : Option Str :=
  match v[i]? with
  | some (.str z) => some z
  | _ => none
/-- each one once, where it comes first -/
def uniq {α : Type} [DecidableEq α] (l : List α) : List α := l.foldl (fun acc z => if z ∈ acc then acc else acc ++ [z]) []
def two (v : List D) (i j : Nat) : Option Row :=
  match stAt v i, stAt v j with
  | some a, some b => some (a, b)
  | _, _ => none
def prs (vs : List (List D)) (i j : Nat) : List Row := vs.filterMap fun v => two v i j
abbrev tups (vs : List (List D)) : D := .list (vs.map PyData.tuple)
end Mg
set_option Elab.async false
set_option linter.all false
set_option maxRecDepth 100000
namespace Mg
open PySem PySem.Spec PyProof.Rows L2 Evl Kc Kz Kx Tr
def lnames (rows : List Row) : List Str := (rows.filter fun r => !isC r.2).map (·.1)
def strOf : D → Option Str
  | .str z => some z
  | _ => none
/-- the labels of a version -/
def labs (ds : List D) : List Str := ds.filterMap strOf
abbrev Stp := Nat × Nat × Nat
end Mg
set_option Elab.async false
set_option linter.all false
set_option maxRecDepth 100000
namespace K23
open PySem PySem.Spec PyProof.Rows L2 Evl Kc Kz Kx Tr Mg
def fb_law_word : FS := (sCons (sSet 2 (fC (.dat (.str "abcdefghijklmnopqrstuvwxyz")))) (sCons (sSet 3 (fMeth gJoin (fC (.dat (.str ""))) (fCons (fLc [4] (iR1 (fCons (f2 gIx (fDisp .newl (fCons (fC (.dat (.int (1)))) (fCons (fC (.dat (.int (1)))) (fCons (fC (.dat (.int (2)))) (fCons (fC (.dat (.int (8)))) fNil))))) (fCall 2 F_draw (fCons (fVar 0) (fCons (fC (.dat (.int (4)))) fNil)))) fNil)) (gN 4) fYes (f2 gIx (fVar 2) (fCall 2 F_draw (fCons (fVar 0) (fCons (fC (.dat (.int (26)))) fNil))))) fNil))) (sCons (sIf (fTest (f2 (gIn false) (fVar 3) (fVar 1))) (sSet 3 (f2 gIx (fLc [5] (iSeq sK (fFrz 2)) (gN 5) (fTest (f2 (gIn true) (fVar 5) (fVar 1))) (fFrz 5)) (fC (.dat (.int (0)))))) sNil) (sRet (fVar 3)))))
def fb_law_words : FS := (sCons (sSet 2 (fDisp .newl fNil)) (sCons (sFor (iR1 (fCons (fVar 1) fNil)) (gN 3) (sExpr (fMut 2 mAppend (fCons (fCall 2 F_word (fCons (fVar 0) (fCons (fVar 2) fNil))) fNil)))) (sRet (fVar 2))))
def fb_law_mixed : FS := (sCons (sSet 2 (fB (g1 gList) (fCons (fVar 1) fNil))) (sRet (fLc [3] (iR1 (fCons (fB (g1 gLen) (fCons (fVar 1) fNil)) fNil)) (gN 3) fYes (fMut 2 mPopAt (fCons (fCall 2 F_draw (fCons (fVar 0) (fCons (fB (g1 gLen) (fCons (fVar 2) fNil)) fNil))) fNil)))))
def fb_law_fields : FS := (sCons (sSet 3 (f2 gAdd (fLc [4] (iR1 (fCons (fVar 1) fNil)) (gN 4) fYes (f2 gIx (fDisp .newl (fCons (fC (.dat (.str "mine"))) (fCons (fC (.dat (.str "theirs"))) fNil))) (fCall 2 F_draw (fCons (fVar 0) (fCons (fC (.dat (.int (2)))) fNil))))) (f2 gMul (fDisp .newl (fCons (fC (.dat (.str "counter"))) fNil)) (fVar 2)))) (sRet (fLZ (fCons (fCall 2 F_words (fCons (fVar 0) (fCons (f2 gAdd (fVar 1) (fVar 2)) fNil))) (fCons (fCall 2 F_mixed (fCons (fVar 0) (fCons (fVar 3) fNil))) fNil)))))
def fb_law : FS := (sRet (fB (g1 gAll) (fCons (fLc [1] (iR1 (fCons (fB (g2 gMax2) (fCons (fC (.dat (.int (1)))) (fCons (fB (g2 gMin2) (fCons (fScrLen (fVar 0)) (fCons (fC (.dat (.int (4)))) fNil))) fNil))) fNil)) (gN 1) fYes (fCallP F_right (fCall 2 F_pot (fCons (fVar 0) (fCons (fVar 1) fNil))))) fNil)))
def fb_is_name : FS := (sCons (sIf (fNot (fTest (f1 (fun d k => k (.val (.bool (isT "str" d)))) (fVar 0)))) (sRet (fC (.dat (.bool false)))) sNil) (sRet (fAndV (fCh (fun i j => decide (i ≤ j)) (fun i j => decide (i ≤ j)) (fC (.dat (.int (1)))) (fB (g1 gLen) (fCons (fVar 0) fNil)) (fC (.dat (.int (8))))) (fB (g1 gAll) (fCons (fLc [1] (iSeq sK (fFrz 0)) (gN 1) fYes (f2 (gIn false) (fVar 1) (fC (.dat (.str "abcdefghijklmnopqrstuvwxyz"))))) fNil)))))
def fb_is_field : FS := (sCons (sIf (fOr (fNot (fTest (f1 (fun d k => k (.val (.bool (isT "tuple" d)))) (fVar 0)))) (fTest (f2 gNe (fB (g1 gLen) (fCons (fVar 0) fNil)) (fC (.dat (.int (2))))))) (sRet (fC (.dat (.bool false)))) sNil) (sCons (sAsg (fFrz 0) (gT 2 (gsCons (gN 1) (gsCons (gN 2) gsNil)))) (sRet (fAndV (fCall 1 F_is_name (fCons (fVar 1) fNil)) (fAndV (f1 (fun d k => k (.val (.bool (isT "str" d)))) (fVar 2)) (f2 (gIn false) (fVar 2) (fC (.dat (.tuple [.str "mine", .str "theirs", .str "counter"])))))))))
def fb_field_problem (C : Addr) : FS := (sCons (sIf (fNot (fTest (fCall 1 F_field (fCons (fVar 0) fNil)))) (sRet (fC (.dat (.str "field")))) sNil) (sCons (sAsg (fFrz 0) (gT 2 (gsCons (gN 2) (gsCons (gN 3) gsNil)))) (sCons (sIf (fTest (f2 (gIn false) (fVar 2) (fLc [6] (iSeq lK (fFrz 1)) (gN 6) fYes (f2 gIx (fVar 6) (fC (.dat (.int (0)))))))) (sRet (fC (.dat (.str "duplicate")))) sNil) (sCons (sSet 4 (fLc [6] (iSeq lK (fFrz 1)) (gN 6) (fTest (f2 gEq (f2 gEq (f2 gIx (fVar 6) (fC (.dat (.int (1))))) (fC (.dat (.str "counter")))) (f2 gEq (fVar 3) (fC (.dat (.str "counter")))))) (fFrz 6))) (sCons (sSet 5 (fIf (fTest (f2 gEq (fVar 3) (fC (.dat (.str "counter"))))) (fC (.dat (.int 4))) (fC (.dat (.int 12))))) (sRet (fIf (fTest (f2 gEq (fB (g1 gLen) (fCons (fVar 4) fNil)) (fVar 5))) (fC (.dat (.str "many"))) (fC (.dat (.none))))))))))
def fb_init (p : Addr) : S → (D → Prop) → KX → Prop := (lCons (sIf (fOr (fNot (fTest (f1 (fun d k => k (.val (.bool (isT "list" d || isT "tuple" d)))) (fVar 1)))) (fTest (f2 gEq (fB (g1 gLen) (fCons (fVar 1) fNil)) (fC (.dat (.int (0))))))) (fun _ _ _ => False) sNil) (lCons (sSet 2 (fDisp .newl fNil)) (lCons (sFor (iEn (fCons (fFrz 1) fNil)) (gT 2 (gsCons (gN 3) (gsCons (gN 4) gsNil))) (sCons (sSet 5 (fCall 2 F_problem (fCons (fVar 4) (fCons (fVar 2) fNil)))) (sCons (sIf (fTest (f2 (gIsN true) (fVar 5) (fC (.dat (.none))))) (fun _ _ _ => False) sNil) (sCons (sAsg (fFrz 4) (gT 2 (gsCons (gN 6) (gsCons (gN 7) gsNil)))) (sExpr (fMut 2 mAppend (fCons (fDisp .newt (fCons (fFrz 6) (fCons (fFrz 7) fNil))) fNil))))))) (lOne p (fB (g1 gTuple) (fCons (fVar 2) fNil))))))
def fb_slen (C : Addr) : FS := (sRet (fB (g1 gLen) (fCons (fFld C "rows" (fVar 0)) fNil)))
def fb_sflds (C : Addr) : FS := (sRet (fB (g1 gList) (fCons (fFld C "rows" (fVar 0)) fNil)))
end K23
set_option Elab.async false
set_option linter.all false
set_option maxRecDepth 100000
namespace K22
open PySem PySem.Spec PyProof.Rows L2 Evl Kc Kz Kx Tr Mg K23
def fb_law_bent : FS := (sCons (sSet 3 (fCall 1 F_marks (fCons (fVar 1) fNil))) (sCons (sIf (fOr (fTest (f2 gEq (fVar 3) (fDisp .newl fNil))) (fTest (f2 gGt (fCall 2 F_draw (fCons (fVar 0) (fCons (fC (.dat (.int (3)))) fNil))) (fC (.dat (.int (0))))))) (sRet (fVar 2)) sNil) (sCons (sSet 4 (fCall 2 F_among (fCons (fVar 0) (fCons (fVar 3) fNil)))) (sRet (f2 gAdd (f2 gAdd (fSl (fVar 2) oNone (oSome (fVar 4))) (fDisp .newt (fCons (fCall 2 F_word (fCons (fVar 0) (fCons (fDisp .newl fNil) fNil))) fNil))) (fSl (fVar 2) (oSome (f2 gAdd (fVar 4) (fC (.dat (.int (1)))))) oNone))))))
end K22
set_option Elab.async false
set_option linter.all false
set_option maxRecDepth 100000
namespace K27
open PySem PySem.Spec PyProof.Rows L2 Evl Kc Kz Kx Tr Mg K23 K22
end K27
set_option Elab.async false
set_option linter.all false
set_option maxRecDepth 100000
namespace K24
open PySem PySem.Spec PyProof.Rows L2 Evl Kc Kz Kx Tr Mg K23 K22 K27
end K24
set_option Elab.async false
set_option linter.all false
set_option maxRecDepth 100000
namespace Mg
open PySem PySem.Spec PyProof.Rows L2 Evl Kc Kz Kx Tr
/-- texts are short enough to be looked at -/
def shortD : D → Prop
  | .str z => z.length ≤ 1000
  | _ => True
def nameB : D → Bool
  | .str z => wordB (.str z)
  | _ => false
def wholeB : D → Bool
  | .int _ => true
  | _ => false
def valueB (k : Str) (d : D) : Bool := if k = "counter" then wholeB d else nameB d
def valuesB : List Row → List D → Bool
  | r :: rs, d :: ds => valueB r.2 d && valuesB rs ds
  | [], [] => true
  | _, _ => false
def versionB (rows : List Row) : D → Bool
  | .tuple ds => valuesB rows ds
  | _ => false
def shortVs : D → Prop
  | .tuple ds => ∀ d ∈ ds, shortD d
  | _ => True
def F_nameA : FD := fun as k _ => ∃ d : D, as = [.dat d] ∧ shortD d ∧ k (.dat (.bool (nameB d)))
def F_wholeA : FD := fun as k _ => ∃ d : D, as = [.dat d] ∧ k (.dat (.bool (wholeB d)))
def seqL : D → Option (List D)
  | .list ds => some ds
  | .tuple ds => some ds
  | _ => none
def tupL : D → List D
  | .tuple ds => ds
  | _ => []
/-- the labels with the number j -/
def colA (ds : List D) (j : Nat) : List Str := ds.filterMap fun d => (labs (tupL d))[j]?
/-- the item at i is no version, or brings a ninth value -/
def badAt (rows : List Row) (ds : List D) (i : Nat) : Bool := !versionB rows (ds.getD i .none) || (List.range (lnames rows).length).any fun j => decide (8 < (uniq (colA (ds.take (i + 1)) j)).length)
abbrev exI (Dv : Addr) (i : Int) : Exn := ⟨Dv, [("index", .int i)]⟩
def F_knownX (C Dv : Addr) : FD := fun as k x => ∃ (rows : List Row) (d : D), as = [schO C rows, .dat d] ∧ rows.length ≤ 20 ∧ (∀ r ∈ rows, three r.2) ∧ (∀ ds, seqL d = some ds → ∀ e ∈ ds, shortVs e ∧ ∀ us, e = .tuple us → us.length ≤ 1000) ∧ (∀ z, d = .str z → z.length ≤ 1000) ∧
  (seqL d = none → x (exI Dv (-1))) ∧ ∀ ds, seqL d = some ds → (¬ (1 ≤ ds.length ∧ ds.length ≤ 40) → x (exI Dv (-1))) ∧ (1 ≤ ds.length → ds.length ≤ 40 → (∀ i : Nat, i < ds.length → badAt rows ds i = true → (∀ m, m < i → badAt rows ds m = false) → x (exI Dv i)) ∧ ((∀ i, i < ds.length → badAt rows ds i = false) → k (.own false (.list ds))))
end Mg
set_option Elab.async false
set_option linter.all false
set_option maxRecDepth 100000
namespace KA
open PySem PySem.Spec PyProof.Rows L2 Evl Kc Kz Kx Tr Mg
def fb_is_name : FS := (sCons (sIf (fNot (fTest (f1 (fun d k => k (.val (.bool (isT "str" d)))) (fVar 0)))) (sRet (fC (.dat (.bool false)))) sNil) (sRet (fAndV (fCh (fun i j => decide (i ≤ j)) (fun i j => decide (i ≤ j)) (fC (.dat (.int (1)))) (fB (g1 gLen) (fCons (fVar 0) fNil)) (fC (.dat (.int (8))))) (fB (g1 gAll) (fCons (fLc [1] (iSeq sK (fFrz 0)) (gN 1) fYes (f2 (gIn false) (fVar 1) (fC (.dat (.str "abcdefghijklmnopqrstuvwxyz"))))) fNil)))))
end KA
set_option Elab.async false
set_option linter.all false
set_option maxRecDepth 100000
namespace Tr
open PySem PySem.Spec PyProof.Rows L2 Evl Kc Kz
end Tr
set_option Elab.async false
set_option linter.all false
set_option maxRecDepth 100000
set_option maxHeartbeats 4000000
namespace KA
open PySem PySem.Spec PyProof.Rows L2 Evl Kc Kz Kx Tr Mg
end KA
set_option Elab.async false
set_option linter.all false
set_option maxRecDepth 100000
set_option maxHeartbeats 4000000
namespace KA
open PySem PySem.Spec PyProof.Rows L2 Evl Kc Kz Kx Tr Mg
def fb_law_is_word : FS := (sCons (sIf (fOr (fNot (fTest (f1 (fun d k => k (.val (.bool (isT "str" d)))) (fVar 0)))) (fNot (fTest (fCh (fun i j => decide (i ≤ j)) (fun i j => decide (i ≤ j)) (fC (.dat (.int (1)))) (fB (g1 gLen) (fCons (fVar 0) fNil)) (fC (.dat (.int (8)))))))) (sRet (fC (.dat (.bool false)))) sNil) (sRet (fB (g1 gAll) (fCons (fLc [1] (iSeq sK (fFrz 0)) (gN 1) fYes (f2 (gIn false) (fVar 1) (fC (.dat (.str "abcdefghijklmnopqrstuvwxyz"))))) fNil))))
def fb_law_met (C : Addr) (D_InvalidVersions : Addr) : FS := (sCons (sSet 2 (fDisp .newl (fCons (fC (.dat (.str "other"))) fNil))) (sCons (sTryAs 3 D_InvalidVersions (sSet 2 (fDisp .newl (fCons (fC (.dat (.str "told"))) (fCons (fCall 2 (F_knownX C D_InvalidVersions) (fCons (fVar 0) (fCons (fVar 1) fNil))) fNil)))) (fun a dd => (sCons (sSet 4 (fIsX 3 a D_InvalidVersions dd false)) (sSet 2 (fIf (fAnd (fTest (fIsX 3 a D_InvalidVersions dd true)) (fNot (fTest (fVar 4)))) (fDisp .newl (fCons (fC (.dat (.str "refused"))) (fCons (fXf 3 a D_InvalidVersions dd "index") fNil))) (fDisp .newl (fCons (fC (.dat (.str "other"))) fNil))))))) (sRet (fVar 2))))
end KA
set_option Elab.async false
set_option linter.all false
set_option maxRecDepth 100000
namespace Mg
open PySem PySem.Spec PyProof.Rows L2 Evl Kc Kz Kx Tr
theorem word_parts {z : Str} (h : word z) : 1 ≤ z.length ∧ z.length ≤ 8 ∧ ∀ c ∈ z.cps.toList, c ∈ abc.cps.toList := by
  have h : (decide (1 ≤ (z.length : Int)) && (decide ((z.length : Int) ≤ 8) && z.cps.toList.all fun c => decide (c ∈ abc.cps.toList))) = true := h
  simp only [Bool.and_eq_true, decide_eq_true_eq, List.all_eq_true] at h
  exact ⟨by omega, by omega, h.2.2⟩
theorem abc_small : ∀ c ∈ abc.cps.toList, c < 0x110000 := by decide
theorem word_lay {z : Str} (h : word z) : PyData.canLay0 (.str z) = true := by
  simp only [PyData.canLay0, PyData.strOk]
  rw [Array.all_eq_true']
  intro c hc
  have := abc_small c ((word_parts h).2.2 c (Array.mem_def.mp hc))
  simpa using this
theorem sh_int (i : Int) : SeqAt.shaped (.int i) = true := by
  show (PyData.canLay0 (.int i) && decide (PyData.depth (.int i) ≤ 64)) = true
  simp [PyData.canLay0, PyData.depth]
theorem eqS (a b : Str) : eqD (.str a) (.str b) = decide (a = b) := by
  show PyData.eqv (.str a) (.str b) = _
  simp only [PyData.eqv]
  by_cases h : a = b
  · subst h; simp
  · rw [decide_eq_false h]; exact beq_eq_false_iff_ne.mpr h
theorem eqI (a b : Int) : eqD (.int a) (.int b) = decide (a = b) := by
  show PyData.eqv (.int a) (.int b) = _
  simp only [PyData.eqv]
  by_cases h : a = b
  · subst h; simp
  · rw [decide_eq_false h]; exact beq_eq_false_iff_ne.mpr h
theorem val_lay {n : Nat} {k : Str} {d : D} (h : ValOk n k d) : d.canLay0 = true ∧ d.depth = 0 ∧ tupD d = true ∧ flatD d = true := by
  cases d <;> first
    | exact h.elim
    | exact ⟨word_lay h.2, by simp [PyData.depth], by simp [tupD], rfl⟩
    | exact ⟨by simp [PyData.canLay0], by simp [PyData.depth], by simp [tupD], rfl⟩
theorem val_show {n : Nat} {k : Str} {d : D} (hn : n ≤ 1900) (h : ValOk n k d) : d.showable = true ∧ d.hasDict = false ∧ wt d ≤ 1922 := by
  cases d <;> first
    | exact h.elim
    | skip
  · refine ⟨?_, by simp [PyData.hasDict], by simp [wt]⟩
    rename_i i
    simp only [decide_eq_true_eq, PyData.showable]
    by_cases z : i.natAbs = 0
    · rw [z]; decide
    · exact Nat.lt_of_lt_of_le ((Nat.log2_lt z).mpr h.2) (by omega)
  · refine ⟨by simp [PyData.showable], by simp [PyData.hasDict], ?_⟩
    have := (word_parts h.2).2.1
    simp only [wt]
    omega
theorem ver_lay {n : Nat} : ∀ {rows : List Row} {ds : List D}, VerOk n rows ds → PyData.canLayAll0 ds = true ∧ PyData.depthAll ds = 0 ∧ tupDs ds = true
  | _, _, .nil => ⟨by simp [PyData.canLayAll0], by simp [PyData.depthAll], by simp [tupDs]⟩
  | _, _, .cons h t => by
    obtain ⟨a, b, c⟩ := ver_lay t
    obtain ⟨a', b', c', _⟩ := val_lay h
    exact ⟨by simp only [PyData.canLayAll0, a, a', Bool.and_self], by simp only [PyData.depthAll, b, b', Nat.max_self], by simp only [tupDs, c, c', Bool.and_self]⟩
theorem ver_show {n : Nat} (hn : n ≤ 1900) : ∀ {rows : List Row} {ds : List D}, VerOk n rows ds → PyData.showableAll ds = true ∧ PyData.hasDictAll ds = false ∧ wts ds ≤ rows.length * 1924
  | _, _, .nil => ⟨by simp [PyData.showableAll], by simp [PyData.hasDictAll], by simp [wts]⟩
  | _, _, .cons h t => by
    obtain ⟨a, b, c⟩ := ver_show hn t
    obtain ⟨a', b', c'⟩ := val_show hn h
    refine ⟨by simp only [PyData.showableAll, a, a', Bool.and_self], by simp only [PyData.hasDictAll, b, b', Bool.or_self], ?_⟩
    simp only [wts, List.length_cons]
    omega
theorem ver_tup {n : Nat} {rows : List Row} {ds : List D} (h : VerOk n rows ds) : tupD (.tuple ds) = true := by
  simp only [tupD]
  exact (ver_lay h).2.2
/-- repr of a version -/
theorem repr_ver {n : Nat} {rows : List Row} {ds : List D} {k : Out → Prop} (hn : n ≤ 1900) (hr : rows.length ≤ 20) (h : VerOk n rows ds) (hk : k (.val (.str (PyData.shown (.tuple ds))))) : gRepr (.tuple ds) k := by
  obtain ⟨a, b, _⟩ := ver_lay h
  obtain ⟨c, d, e⟩ := ver_show hn h
  have cl : PyData.canLay0 (.tuple ds) = true := by simp only [PyData.canLay0, a]
  have sb : PyData.showable (.tuple ds) = true := by simp only [PyData.showable, c]
  refine ⟨⟨⟨cl, ds, .inr rfl⟩, sb, by simp only [PyData.hasDict, d], by simp only [PyData.depth, b]; decide, ?_⟩, hk⟩
  have := shown_le (.tuple ds) cl sb
  simp only [wt] at this
  refine Nat.le_trans this (Nat.le_trans (m := 100000) (by omega) (by decide))
theorem ifS {a b : Str} {P Q : Prop} (h1 : a = b → P) (h2 : a ≠ b → Q) : if eqD (.str a) (.str b) = true then P else Q := by
  rw [eqS]
  by_cases h : a = b
  · rw [decide_eq_true h]; exact h1 h
  · rw [decide_eq_false h]; exact h2 h
theorem ifI {a b : Int} {P Q : Prop} (h1 : a = b → P) (h2 : a ≠ b → Q) : if eqD (.int a) (.int b) = true then P else Q := by
  rw [eqI]
  by_cases h : a = b
  · rw [decide_eq_true h]; exact h1 h
  · rw [decide_eq_false h]; exact h2 h
theorem ifNI {a b : Int} {P Q : Prop} (h1 : a ≠ b → P) (h2 : a = b → Q) : if (!eqD (.int a) (.int b)) = true then P else Q := by
  rw [eqI]
  by_cases h : a = b
  · rw [decide_eq_true h]; exact h2 h
  · rw [decide_eq_false h]; exact h1 h
theorem sz {α : Type} {l : List α} (h : l.length ≤ 1000) : l.length ≤ sizeLine := Nat.le_of_lt (small1000 h)
theorem three_sh {k : Str} (h : three k) : SeqAt.shaped (.str k) = true := by
  rcases h with rfl | rfl | rfl <;> decide +kernel
theorem sh_cnt : SeqAt.shaped (.str "counter") = true := by decide +kernel
theorem ifs {b : Bool} {P Q : Prop} (h1 : b = true → P) (h2 : b = false → Q) : if b = true then P else Q := by
  cases b with
  | true => exact h1 rfl
  | false => exact h2 rfl
def Cl (c : Option AV) : Prop := ∀ b, c = some b → b.isOwn = false
theorem Cl.no : Cl none := nofun
theorem Cl.dat {d : D} : Cl (some (.dat d)) := fun b e => by cases e; rfl
theorem Cl.free {ρ : S} {i : Nat} {c : Option AV} (h : Cl c) (e : ρ[i]? = some c) : Free ρ i := fun b hb => by
  rw [e] at hb
  have := h b (Option.some.inj hb)
  cases b <;> first | rfl | cases this
/-- a loop's name is set -/
theorem pd {ρ : S} {i : Nat} {d : D} {k : S → Prop} {c : Option AV} (e : ρ[i]? = some c) (h : Cl c) (hk : k (ρ.set i (some (.dat d)))) : gN i d ρ k := put_dat (h.free e) hk
theorem nilK {ρ : S} {k : S → Prop} (h : k ρ) : gsNil [] ρ k := h
theorem conK {g : FG} {gs : List D → S → (S → Prop) → Prop} {d : D} {ds : List D} {ρ : S} {k : S → Prop} (h : g d ρ fun ρ1 => gs ds ρ1 k) : gsCons g gs (d :: ds) ρ k := h
/-- a name is set -/
theorem pk {ρ : S} {i : Nat} {a : AV} {k : S → Prop} {c : Option AV} (e : ρ[i]? = some c) (h : Cl c) (np : a.isPar = false) (na : ∀ j, a ≠ .at j) (hk : k (ρ.set i (some a))) : putK i a ρ k := put_mk (h.free e) np na hk
theorem pkd {ρ : S} {i : Nat} {d : D} {k : S → Prop} {c : Option AV} (e : ρ[i]? = some c) (h : Cl c) (hk : k (ρ.set i (some (.dat d)))) : putK i (.dat d) ρ k := pk e h rfl (fun _ => nofun) hk
end Mg
set_option Elab.async false
set_option linter.all false
set_option maxRecDepth 100000
namespace K23
open PySem PySem.Spec PyProof.Rows L2 Evl Kc Kz Kx Tr Mg
abbrev Ok (k : AV → Prop) : EndsT := { nx := fun _ => k (.dat .none), rt := fun a ρ => rtK a ρ k }
theorem imp_slen (C : Addr) : ∀ as k x, as.length = 1 → F_slen C as k x → fb_slen C (start0 1 as) (Ok k) fun c _ => x c := by
  rintro _ k x _ ⟨ds, rfl, hk⟩
  exact ⟨rfl, _, rfl, hk⟩
theorem imp_sflds (C : Addr) : ∀ as k x, as.length = 1 → F_sflds C as k x → fb_sflds C (start0 1 as) (Ok k) fun c _ => x c := by
  rintro _ k x _ ⟨ds, rfl, hk⟩
  exact ⟨rfl, _, rfl, hk⟩
theorem row_get {rows : List Mg.Row} {i : Nat} {a : D} (h : (rows.map rowD)[i]? = some a) : ∃ r, rows[i]? = some r ∧ a = rowD r := by
  rw [List.getElem?_map] at h
  obtain ⟨r, h1, h2⟩ := Option.map_eq_some_iff.mp h
  exact ⟨r, h1, h2.symm⟩
end K23
set_option Elab.async false
set_option linter.all false
set_option maxRecDepth 100000
namespace K23
open PySem PySem.Spec PyProof.Rows L2 Evl Kc Kz Kx Tr Mg
theorem enum_get : ∀ {xs : List D} {m i : Nat} {d : D}, (enumD m xs)[i]? = some d → ∃ a, xs[i]? = some a ∧ d = .tuple [.int ((m + i : Nat) : Int), a] := by
  intro xs
  induction xs with
  | nil => intro m i d h; cases i <;> cases h
  | cons a xs ih =>
    intro m i d h
    cases i with
    | zero => cases Option.some.inj h; exact ⟨a, rfl, rfl⟩
    | succ i =>
      obtain ⟨b, h1, h2⟩ := ih (m := m + 1) (i := i) h
      exact ⟨b, h1, by rw [h2]; congr 3; omega⟩
end K23
set_option Elab.async false
set_option linter.all false
set_option maxRecDepth 100000
namespace K23
open PySem PySem.Spec PyProof.Rows L2 Evl Kc Kz Kx Tr Mg
end K23
set_option Elab.async false
set_option linter.all false
set_option maxRecDepth 100000
namespace Mg
open PySem PySem.Spec PyProof.Rows L2 Kx Kz Kc TL
theorem nodup_le {α : Type} [DecidableEq α] : ∀ (xs ys : List α), xs.Nodup → (∀ x ∈ xs, x ∈ ys) → xs.length ≤ ys.length
  | [], ys, _, _ => Nat.zero_le ys.length
  | x :: xs, ys, nd, sub => by
    have hx : x ∈ ys := sub x List.mem_cons_self
    have nd' := List.nodup_cons.mp nd
    have ih := nodup_le xs (ys.erase x) nd'.2 fun y hy => (List.mem_erase_of_ne (fun e => nd'.1 (by rw [← e]; exact hy))).mpr (sub y (List.mem_cons_of_mem _ hy))
    have := List.length_erase_of_mem hx
    have pos : 0 < ys.length := List.length_pos_of_mem hx
    rw [List.length_cons]
    omega
/-- some letter is not taken -/
theorem letter_free (ws : List Str) (h : ws.length ≤ 25) : (abc.cps.toList.filter fun c => !decide ((⟨#[c]⟩ : Str) ∈ ws)) ≠ [] := fun e => by
  have all : ∀ c ∈ abc.cps.toList, (⟨#[c]⟩ : Str) ∈ ws := fun c hc => by
    refine Classical.byContradiction fun no => ?_
    have : c ∈ (abc.cps.toList.filter fun c => !decide ((⟨#[c]⟩ : Str) ∈ ws)) := List.mem_filter.mpr ⟨hc, by rw [decide_eq_false no]; rfl⟩
    rw [e] at this
    cases this
  have nd : (abc.cps.toList.map fun c => (⟨#[c]⟩ : Str)).Nodup := by decide +kernel
  have le := nodup_le _ ws nd fun z hz => by
    obtain ⟨c, hc, rfl⟩ := List.mem_map.mp hz
    exact all c hc
  rw [List.length_map] at le
  have : abc.cps.toList.length = 26 := by decide +kernel
  omega
theorem mem_joinL : ∀ (ps : List (List Nat)) (c : Nat), c ∈ joinL [] ps → ∃ q ∈ ps, c ∈ q
  | [], c, h => by cases h
  | [p], c, h => ⟨p, List.mem_cons_self, h⟩
  | p :: r :: rs, c, h => by
    have h' : c ∈ p ++ ([] ++ joinL [] (r :: rs)) := h
    rw [List.nil_append] at h'
    rcases List.mem_append.mp h' with z | z
    · exact ⟨p, List.mem_cons_self, z⟩
    · obtain ⟨q, hq, hc⟩ := mem_joinL (r :: rs) c z
      exact ⟨q, List.mem_cons_of_mem _ hq, hc⟩
/-- letters joined are a word -/
theorem word_join (ys : List Str) (h : ∀ y ∈ ys, ∃ c ∈ abc.cps.toList, y = ⟨#[c]⟩) (h1 : 1 ≤ ys.length) (h8 : ys.length ≤ 8) : wordB (.str (Txt.join "" ys)) = true := by
  have one : ∀ y ∈ ys, y.length = 1 := fun y hy => by
    obtain ⟨c, _, rfl⟩ := h y hy
    rfl
  have ln : (Txt.join "" ys).length = ys.length := by rw [join_len, sum_ones ys one]
  have e : Txt.join "" ys = Str.join "" ys := by
    unfold Txt.join
    rw [StrLaws.glued_eq_join]
  have all : ∀ c ∈ (Txt.join "" ys).cps.toList, c ∈ abc.cps.toList := fun c hc => by
    have hc' : c ∈ tl (Str.join "" ys) := by rw [← e]; exact hc
    rw [tl_join] at hc'
    obtain ⟨q, hq, hcq⟩ := mem_joinL _ c hc'
    obtain ⟨y, hy, rfl⟩ := List.mem_map.mp hq
    obtain ⟨d, hd, rfl⟩ := h y hy
    have : c = d := by simpa [tl] using hcq
    rw [this]
    exact hd
  simp only [wordB, Bool.and_eq_true, decide_eq_true_eq, List.all_eq_true]
  refine ⟨by omega, by omega, all⟩
theorem word_sign {c : Nat} (h : c ∈ abc.cps.toList) : wordB (.str ⟨#[c]⟩) = true := by
  simp only [wordB, Bool.and_eq_true, decide_eq_true_eq, List.all_eq_true]
  refine ⟨by show (1 : Int) ≤ ((1 : Nat) : Int); decide, by show ((1 : Nat) : Int) ≤ 8; decide, fun d hd => ?_⟩
  have : d = c := by simpa using hd
  rw [this]
  exact h
end Mg
set_option Elab.async false
set_option linter.all false
set_option maxRecDepth 100000
namespace K23
open PySem PySem.Spec PyProof.Rows L2 Evl Kc Kz Kx Tr Mg
theorem in_strs (z : Str) : ∀ ws : List Str, inD (.str z) (sts ws) = decide (z ∈ ws)
  | [] => rfl
  | w :: ws => by
    show (eqD (.str w) (.str z) || inD (.str z) (sts ws)) = _
    rw [eqS, in_strs z ws]
    by_cases h : w = z
    · subst h; simp
    · have h' : z ≠ w := fun e => h e.symm
      rw [decide_eq_false h, Bool.false_or]
      simp [List.mem_cons, h']
theorem flat_sts : ∀ ws : List Str, (sts ws).all flatD = true
  | [] => rfl
  | w :: ws => by
    show (true && (sts ws).all flatD) = true
    rw [flat_sts ws]
    rfl
theorem strs_of {k : List Str → Prop} : ∀ {ws : List Str}, k ws → strsK (sts ws) k := by
  intro ws
  induction ws generalizing k with
  | nil => exact id
  | cons w ws ih => intro h; exact ih (k := fun ns => k (w :: ns)) h
theorem tup_sts : ∀ ws : List Str, tupDs (sts ws) = true
  | [] => by simp [tupDs]
  | w :: ws => by simp only [List.map_cons, tupDs, tupD, tup_sts ws, Bool.and_self]
theorem imp_word : ∀ as k x, as.length = 2 → F_word as k x → fb_law_word (start0 6 as) (Ok k) fun c _ => x c := by
  rintro _ k x _ ⟨ts, rfl, hn, hk⟩
  refine ⟨⟨_, rfl⟩, sz (by simp), Nat.le_refl 1, rfl, 4, rfl, by decide, by decide, fun j h0 h1 => ⟨.inl rfl, ?_⟩⟩
  obtain ⟨m, hm, m1, m8⟩ : ∃ m : Nat, atI [PyData.int 1, .int 1, .int 2, .int 8] j = some (.int m) ∧ 1 ≤ m ∧ m ≤ 8 := by
    rcases (show j = 0 ∨ j = 1 ∨ j = 2 ∨ j = 3 by omega) with rfl | rfl | rfl | rfl
    · exact ⟨1, rfl, by decide, by decide⟩
    · exact ⟨1, rfl, by decide, by decide⟩
    · exact ⟨2, rfl, by decide, by decide⟩
    · exact ⟨8, rfl, by decide, by decide⟩
  refine ⟨_, hm, ⟨by omega, by omega⟩, rfl, ?_⟩
  refine lcF_by (fun i acc ρ => ρ = start0 6 [.pot true, .dat (.list (sts ts)), .dat (.str abc)] ∧ ∃ ys : List Str, acc = sts ys ∧ ys.length = i ∧ ∀ y ∈ ys, ∃ c ∈ abc.cps.toList, y = ⟨#[c]⟩) (fun i d acc ρ hd hI C' hC => ?_) (fun acc ρ hI => ?_) ⟨rfl, [], rfl, rfl, nofun⟩
  · obtain ⟨rfl, ys, rfl, hl, hy⟩ := hI
    obtain ⟨hi, rfl⟩ := rngD_get hd
    refine ⟨Nat.le_refl 1, rfl, 26, rfl, by decide, by decide, fun j h0 h1 => ⟨.inl rfl, by decide, ?_⟩⟩
    obtain ⟨q, c, rfl, hc, e⟩ := atI_get (xs := abc.cps.toList) h0 h1
    refine ⟨c, e, ?_, hC _ _ ⟨rfl, ys ++ [⟨#[c]⟩], ?_, ?_, ?_⟩⟩
    · rw [List.length_map]
      exact small1000 (by omega)
    · show _ = List.map _ _
      rw [List.map_append]
      rfl
    · rw [List.length_append, hl]; rfl
    · intro y h
      obtain h | h := List.mem_append.mp h
      · exact hy y h
      · exact ⟨c, List.mem_of_getElem? hc, List.mem_singleton.mp h⟩
  · obtain ⟨rfl, ys, rfl, hl, hy⟩ := hI
    rw [rngD_len] at hl
    refine strs_of ?_
    have one : ∀ y ∈ ys, y.length = 1 := fun y h => by obtain ⟨c, _, rfl⟩ := hy y h; rfl
    have jw := word_join ys hy (by omega) (by omega)
    refine ⟨?_, ?_⟩
    · rw [sum_ones ys one]
      show _ + _ * 0 ≤ _
      omega
    generalize Txt.join "" ys = z at jw
    refine ⟨.inl ?_, ?_⟩
    · show (true && (sts ts).all flatD) = true
      rw [flat_sts]
      rfl
    rw [in_strs]
    refine ifs (fun e => ?_) fun e => ?_
    · refine ⟨rfl, ?_⟩
      refine lcF_by (fun i acc ρ => ρ = start0 6 [.pot true, .dat (.list (sts ts)), .dat (.str abc), .dat (.str z)] ∧ acc = ((abc.cps.toList.take i).filter fun c => !decide ((⟨#[c]⟩ : Str) ∈ ts)).map fun c => .str ⟨#[c]⟩) (fun i d acc ρ hd hI C' hC => ?_) (fun acc ρ hI => ?_) ⟨rfl, rfl⟩
      · obtain ⟨rfl, rfl⟩ := hI
        rw [List.getElem?_map] at hd
        obtain ⟨c, hc, rfl⟩ := Option.map_eq_some_iff.mp hd
        have tk : abc.cps.toList.take (i + 1) = abc.cps.toList.take i ++ [c] := by rw [List.take_add_one, hc]; rfl
        refine ⟨.inl ?_, ?_⟩
        · show (true && (sts ts).all flatD) = true
          rw [flat_sts]
          rfl
        rw [in_strs]
        refine ifs (fun e => ⟨?_, hC _ _ ⟨rfl, ?_⟩⟩) fun e => hC _ _ ⟨rfl, ?_⟩
        · rw [List.length_map]
          refine small1000 (Nat.le_trans (List.length_filter_le _ _) ?_)
          exact Nat.le_trans (List.length_take_le' _ _) (by decide)
        · rw [tk, List.filter_append, List.map_append, List.filter_cons_of_pos (by simpa using e)]
          rfl
        · rw [tk, List.filter_append, List.map_append, List.filter_cons_of_neg (by simpa using e)]
          exact (List.append_nil _).symm
      · obtain ⟨rfl, rfl⟩ := hI
        have fr := letter_free ts hn
        have full : (List.map (fun c => (PyData.str ⟨#[c]⟩ : D)) abc.cps.toList).length = abc.cps.toList.length := List.length_map ..
        have ef : abc.cps.toList.take ((List.map (fun c => (PyData.str ⟨#[c]⟩ : D)) abc.cps.toList).length) = abc.cps.toList := by rw [full, List.take_length]
        rw [ef]
        cases hf : (abc.cps.toList.filter fun c => !decide ((⟨#[c]⟩ : Str) ∈ ts)) with
        | nil => exact absurd hf fr
        | cons c cs =>
          have mc : c ∈ abc.cps.toList.filter fun c => !decide ((⟨#[c]⟩ : Str) ∈ ts) := by rw [hf]; exact List.mem_cons_self
          rw [List.mem_filter] at mc
          obtain ⟨q, v, e0, hv, e2⟩ := atI_get (xs := (c :: cs).map fun c => (PyData.str ⟨#[c]⟩ : D)) (i := 0) (by decide) (by rw [List.length_map, List.length_cons]; omega)
          have : q = 0 := by omega
          subst this
          cases Option.some.inj hv
          exact ⟨_, e2, hk _ (word_sign mc.1) (by simpa using mc.2)⟩
    · exact hk z jw (by simpa using e)
theorem erase_perm {α : Type} : ∀ {l : List α} {m : Nat} (h : m < l.length), (l[m] :: l.eraseIdx m).Perm l
  | _ :: _, 0, _ => .refl _
  | a :: l, m + 1, h => .trans (.swap a _ _) (.cons a (erase_perm (l := l) (m := m) (Nat.lt_of_succ_lt_succ h)))
theorem imp_mixed : ∀ as k x, as.length = 2 → F_mixed as k x → fb_law_mixed (start0 4 as) (Ok k) fun c _ => x c := by
  rintro _ k x _ ⟨ds, rfl, hn, hk⟩
  refine ⟨⟨by omega, by omega⟩, rfl, ?_⟩
  refine lcF_by (fun i acc ρ => ∃ left : List D, ρ = [some (.pot true), some (.dat (.list ds)), some (.own false (.list left)), none] ∧ (acc ++ left).Perm ds ∧ acc.length = i) (fun i d acc ρ hd hI C' hC => ?_) (fun acc ρ hI => ?_) ⟨ds, rfl, .refl _, rfl⟩
  · obtain ⟨left, rfl, pm, hl⟩ := hI
    obtain ⟨hi, rfl⟩ := rngD_get hd
    have ln := pm.length_eq
    rw [List.length_append] at ln
    have lp : 0 < left.length := by omega
    refine ⟨Nat.le_refl 1, rfl, (left.length : Int), rfl, by omega, by omega, fun j h0 h1 => ⟨.inl rfl, rfl, ?_⟩⟩
    obtain ⟨m, rfl⟩ : ∃ m : Nat, j = m := ⟨j.toNat, by omega⟩
    have hm : m < left.length := by omega
    refine ⟨m, left[m], rfl, by omega, List.getElem?_eq_getElem hm, ?_, hC _ _ ⟨left.eraseIdx m, rfl, ?_, ?_⟩⟩
    · exact small1000 (by omega)
    · refine List.Perm.trans ?_ pm
      rw [List.append_assoc]
      exact List.Perm.append_left _ (erase_perm hm)
    · rw [List.length_append, hl]; rfl
  · obtain ⟨left, rfl, pm, hl⟩ := hI
    rw [rngD_len] at hl
    have ln := pm.length_eq
    rw [List.length_append] at ln
    have : left = [] := List.eq_nil_of_length_eq_zero (by omega)
    subst this
    rw [List.append_nil] at pm
    exact hk _ pm
end K23
set_option Elab.async false
set_option linter.all false
set_option maxRecDepth 100000
namespace K23
open PySem PySem.Spec PyProof.Rows L2 Evl Kc Kz Kx Tr Mg
theorem flat_rep {α : Type} (x : α) : ∀ n : Nat, (List.replicate n [x]).flatten = List.replicate n x
  | 0 => rfl
  | n + 1 => by rw [List.replicate_succ, List.flatten_cons, flat_rep x n]; rfl
theorem perm_sts {es : List D} {ks : List Str} (h : es.Perm (sts ks)) : ∃ ks', es = sts ks' ∧ ks'.Perm ks := by
  let g : D → Str := fun d => match d with | .str z => z | _ => ""
  have e1 : (sts ks).map g = ks := by rw [List.map_map]; exact List.map_id _
  refine ⟨es.map g, ?_, by rw [← e1]; exact h.map g⟩
  show es = List.map PyData.str (es.map g)
  rw [List.map_map]
  have : ∀ d ∈ es, (PyData.str ∘ g) d = d := fun d hd => by
    obtain ⟨z, _, rfl⟩ := List.mem_map.mp (h.mem_iff.mp hd)
    rfl
  exact ((List.map_congr_left this).trans (List.map_id' es)).symm
theorem zip_sts (ws ks : List Str) : zipD (sts ws) (sts ks) = (ws.zip ks).map rowD := by
  unfold zipD
  induction ws generalizing ks with
  | nil => rfl
  | cons w ws ih =>
    cases ks with
    | nil => rfl
    | cons k ks => exact congrArg (rowD (w, k) :: ·) (ih ks)
theorem snd_count {ws ks : List Str} (p : Str → Bool) (h : ks.length ≤ ws.length) : ((ws.zip ks).filter fun r => p r.2).length = (ks.filter p).length := by
  have e := List.map_snd_zip (l₁ := ws) (l₂ := ks) h
  have : ks.filter p = ((ws.zip ks).filter (p ∘ Prod.snd)).map Prod.snd := by rw [← List.filter_map, e]
  rw [this, List.length_map]
  rfl
theorem no_c {ks : List Str} (h : ∀ z ∈ ks, z = "mine" ∨ z = "theirs") : ks.filter (fun z => isC z) = [] := by
  rw [List.filter_eq_nil_iff]
  intro z hz
  rcases h z hz with rfl | rfl <;> decide
theorem yes_l {ks : List Str} (h : ∀ z ∈ ks, z = "mine" ∨ z = "theirs") : ks.filter (fun z => !isC z) = ks := by
  rw [List.filter_eq_self]
  intro z hz
  rcases h z hz with rfl | rfl <;> decide
theorem all_c (n : Nat) : (List.replicate n ("counter" : Str)).filter (fun z => isC z) = List.replicate n ("counter" : Str) := by
  rw [List.filter_eq_self]
  intro z hz
  rw [(List.mem_replicate.mp hz).2]
  decide
theorem no_l (n : Nat) : (List.replicate n ("counter" : Str)).filter (fun z => !isC z) = [] := by
  rw [List.filter_eq_nil_iff]
  intro z hz
  rw [(List.mem_replicate.mp hz).2]
  decide
theorem imp_fields : ∀ as k x, as.length = 3 → F_fields as k x → fb_law_fields (start0 5 as) (Ok k) fun c _ => x c := by
  rintro _ k x _ ⟨a, b, rfl, hab, hk⟩
  refine ⟨⟨by omega, by omega⟩, rfl, ?_⟩
  refine lcF_by (fun i acc ρ => ρ = start0 5 [.pot true, .dat (.int a), .dat (.int b)] ∧ ∃ ks : List Str, acc = sts ks ∧ ks.length = i ∧ ∀ z ∈ ks, z = "mine" ∨ z = "theirs") (fun i d acc ρ hd hI C' hC => ?_) (fun acc ρ hI => ?_) ⟨rfl, [], rfl, rfl, nofun⟩
  · obtain ⟨rfl, ks, rfl, hl, hz⟩ := hI
    obtain ⟨hi, rfl⟩ := rngD_get hd
    refine ⟨sz (by simp), Nat.le_refl 1, rfl, 2, rfl, by decide, by decide, fun j h0 h1 => ⟨.inl rfl, ?_⟩⟩
    obtain ⟨z, e, hz'⟩ : ∃ z : Str, atI [PyData.str "mine", .str "theirs"] j = some (.str z) ∧ (z = "mine" ∨ z = "theirs") := by
      rcases (show j = 0 ∨ j = 1 by omega) with rfl | rfl
      · exact ⟨_, rfl, .inl rfl⟩
      · exact ⟨_, rfl, .inr rfl⟩
    refine ⟨_, e, ?_, hC _ _ ⟨rfl, ks ++ [z], ?_, ?_, ?_⟩⟩
    · rw [List.length_map]
      exact small1000 (by omega)
    · show _ = List.map _ _
      rw [List.map_append]
      rfl
    · rw [List.length_append, hl]; rfl
    · intro y h
      obtain h | h := List.mem_append.mp h
      · exact hz y h
      · rw [List.mem_singleton.mp h]
        exact hz'
  · obtain ⟨rfl, ks, rfl, hl, hz⟩ := hI
    rw [rngD_len] at hl
    have hl : ks.length = a := by omega
    refine ⟨sz (by simp), ⟨by omega, by omega, ?_⟩, ?_, ?_⟩
    · show 1 * (b : Int).toNat ≤ sizeLine
      exact Nat.le_of_lt (small1000 (by omega))
    · rw [List.length_map]
      show _ + ((List.replicate (b : Int).toNat [(PyData.str "counter" : D)]).flatten).length ≤ _
      rw [flat_rep, List.length_replicate]
      exact Nat.le_of_lt (small1000 (by omega))
    have ek : sts ks ++ (List.replicate (b : Int).toNat [(PyData.str "counter" : D)]).flatten = sts (ks ++ List.replicate b ("counter" : Str)) := by
      rw [flat_rep]
      show _ = List.map _ _
      rw [List.map_append, List.map_replicate]
      rfl
    have kl : (ks ++ List.replicate b ("counter" : Str)).length = a + b := by rw [List.length_append, List.length_replicate, hl]
    refine ⟨Nat.le_refl 1, rfl, a + b, rfl, hab, fun ws wl wn wk => ⟨.inl rfl, ?_⟩⟩
    refine ⟨Nat.le_refl 1, rfl, _, rfl, ?_, fun es pm => ⟨.inr ?_, ?_⟩⟩
    · rw [ek, List.length_map, kl]
      omega
    · obtain ⟨ks', rfl, _⟩ := perm_sts (ek ▸ pm)
      show tupDs _ = true
      exact tup_sts ks'
    · obtain ⟨ks', rfl, pm'⟩ := perm_sts (ek ▸ pm)
      have kl' : ks'.length = a + b := by rw [pm'.length_eq, kl]
      show k (.own false (.list (zipD (sts ws) (sts ks'))))
      rw [zip_sts]
      refine hk _ ⟨?_, fun r hr => ?_, fun r hr => ?_, ?_, ?_⟩
      · rw [List.map_fst_zip (by omega)]
        exact wn
      · exact wk _ (List.of_mem_zip hr).1
      · have m := pm'.mem_iff.mp (List.of_mem_zip hr).2
        rcases List.mem_append.mp m with m | m
        · rcases hz _ m with e | e
          · exact .inl e
          · exact .inr (.inl e)
        · exact .inr (.inr (List.mem_replicate.mp m).2)
      · rw [snd_count (fun z => isC z) (by omega), (pm'.filter _).length_eq, List.filter_append, no_c hz, List.nil_append, all_c, List.length_replicate]
      · rw [snd_count (fun z => !isC z) (by omega), (pm'.filter _).length_eq, List.filter_append, yes_l hz, no_l, List.append_nil, hl]
end K23
set_option Elab.async false
set_option linter.all false
set_option maxRecDepth 100000
namespace K23
open PySem PySem.Spec PyProof.Rows L2 Evl Kc Kz Kx Tr Mg
theorem take_succ {α : Type} {l : List α} {i : Nat} {a : α} (h : l[i]? = some a) : l.take (i + 1) = l.take i ++ [a] := by rw [List.take_add_one, h]; rfl
end K23
set_option Elab.async false
set_option linter.all false
set_option maxRecDepth 100000
namespace K23
open PySem PySem.Spec PyProof.Rows L2 Evl Kc Kz Kx Tr Mg
end K23
set_option Elab.async false
set_option linter.all false
set_option maxRecDepth 100000
namespace K23
open PySem PySem.Spec PyProof.Rows L2 Evl Kc Kz Kx Tr Mg
theorem sh_bl (b : Bool) : SeqAt.shaped (.bool b) = true := by cases b <;> decide +kernel
theorem eqB (a b : Bool) : eqD (.bool a) (.bool b) = (a == b) := by
  show PyData.eqv (.bool a) (.bool b) = _
  simp only [PyData.eqv]
end K23
set_option Elab.async false
set_option linter.all false
set_option maxRecDepth 100000
namespace K23
open PySem PySem.Spec PyProof.Rows L2 Evl Kc Kz Kx Tr Mg
abbrev Shows (d : D) : Prop := (d.canLay0 = true ∧ (∃ ds, d = .list ds ∨ d = .tuple ds)) ∧ d.showable = true ∧ d.hasDict = false ∧ d.depth ≤ 40 ∧ d.shown.length ≤ sizeLine
theorem rv {n : Nat} {rows : List Mg.Row} {ds : List D} (hn : n ≤ 1900) (hr : rows.length ≤ 20) (h : VerOk n rows ds) : Shows (.tuple ds) := (repr_ver (k := fun _ => True) hn hr h trivial).1
end K23
set_option Elab.async false
set_option linter.all false
set_option maxRecDepth 100000
namespace K23
open PySem PySem.Spec PyProof.Rows L2 Evl Kc Kz Kx Tr Mg
end K23
set_option Elab.async false
set_option linter.all false
set_option maxRecDepth 100000
namespace K23
open PySem PySem.Spec PyProof.Rows L2 Evl Kc Kz Kx Tr Mg
end K23
set_option Elab.async false
set_option linter.all false
set_option maxRecDepth 100000
namespace K22
open PySem PySem.Spec PyProof.Rows L2 Evl Kc Kz Kx Tr Mg K23
theorem fm_snoc {α β : Type} {l : List α} {f : α → Option β} {a : α} : (l ++ [a]).filterMap f = l.filterMap f ++ (f a).toList := by
  rw [List.filterMap_append]
  cases e : f a <;> simp [List.filterMap_cons, e]
theorem sts_app (a b : List Str) : sts (a ++ b) = sts a ++ sts b := List.map_append
end K22
set_option Elab.async false
set_option linter.all false
set_option maxRecDepth 100000
namespace K22
open PySem PySem.Spec PyProof.Rows L2 Evl Kc Kz Kx Tr Mg K23
abbrev oth : List (Str × Str) := [("mine", "theirs"), ("theirs", "mine"), ("counter", "counter")]
theorem sh_list {ds : List D} (a : PyData.canLayAll0 ds = true) (b : PyData.depthAll ds = 0) : SeqAt.shaped (.list ds) = true := by
  show (PyData.canLay0 _ && decide (PyData.depth _ ≤ 64)) = true
  simp only [PyData.canLay0, PyData.depth, a, b]
  rfl
theorem cut_to {ds : List D} {n : Nat} (h : n ≤ ds.length) : Tr.cutD ds none (some (n : Int)) = ds.take n := by
  unfold Tr.cutD
  rw [HT.sIx_none, HT.sIx_nat, List.drop_zero, Nat.min_eq_left h]
  rfl
theorem cut_from {ds : List D} {n : Nat} (h : n ≤ ds.length) : Tr.cutD ds (some (n : Int)) none = ds.drop n := by
  unfold Tr.cutD
  rw [HT.sIx_none, HT.sIx_nat, Nat.min_eq_left h]
  exact List.take_of_length_le (by rw [List.length_drop]; exact Nat.le_refl _)
end K22
set_option Elab.async false
set_option linter.all false
set_option maxRecDepth 100000
namespace K22
open PySem PySem.Spec PyProof.Rows L2 Evl Kc Kz Kx Tr Mg K23
theorem lay_sts : ∀ {ws : List Str}, (∀ z ∈ ws, word z) → PyData.canLayAll0 (sts ws) = true ∧ PyData.depthAll (sts ws) = 0 ∧ PyData.showableAll (sts ws) = true ∧ PyData.hasDictAll (sts ws) = false ∧ wts (sts ws) ≤ ws.length * 84
  | [], _ => ⟨by simp [PyData.canLayAll0], by simp [PyData.depthAll], by simp [PyData.showableAll], by simp [PyData.hasDictAll], by simp [wts]⟩
  | z :: ws, w => by
    obtain ⟨a, b, c, d, e⟩ := lay_sts (ws := ws) fun y hy => w y (List.mem_cons_of_mem _ hy)
    have wz := w z List.mem_cons_self
    have l := (word_parts wz).2.1
    refine ⟨by simp only [List.map_cons, PyData.canLayAll0, word_lay wz, a, Bool.and_self], by simp only [List.map_cons, PyData.depthAll, PyData.depth, b, Nat.max_self], by simp only [List.map_cons, PyData.showableAll, PyData.showable, c, Bool.and_self], by simp only [List.map_cons, PyData.hasDictAll, PyData.hasDict, d, Bool.or_self], ?_⟩
    simp only [List.map_cons, wts, wt, List.length_cons]
    have e : wts (List.map PyData.str ws) ≤ ws.length * 84 := e
    omega
theorem sh_sts {ws : List Str} (w : ∀ z ∈ ws, word z) : SeqAt.shaped (.list (sts ws)) = true := sh_list (lay_sts w).1 (lay_sts w).2.1
def Np (c : Option AV) : Prop := ∀ b, c = some b → b.isPar = false
theorem Np.put {ρ : S} {i : Nat} {a : AV} {k : S → Prop} {c : Option AV} (e : ρ[i]? = some c) (h : Np c) (np : a.isPar = false) (na : ∀ j, a ≠ .at j) (hk : k (ρ.set i (some a))) : Tr.putK i a ρ k := put_mk (fun b hb => h b (Option.some.inj (e.symm.trans hb))) np na hk
end K22
set_option Elab.async false
set_option linter.all false
set_option maxRecDepth 100000
namespace K27
open PySem PySem.Spec PyProof.Rows L2 Evl Kc Kz Kx Tr Mg K23 K22
section
variable {α : Type} [deq : DecidableEq α]
theorem uniq_snoc (l : List α) (z : α) : uniq (l ++ [z]) = if z ∈ uniq l then uniq l else uniq l ++ [z] := by
  unfold uniq
  rw [List.foldl_append]
  rfl
theorem snoc_ind {P : List α → Prop} (h0 : P []) (h1 : ∀ l z, P l → P (l ++ [z])) : ∀ l, P l := fun l => by
  have key : ∀ n (l : List α), l.length = n → P l := fun n => by
    induction n with
    | zero => intro l h; rw [List.eq_nil_of_length_eq_zero h]; exact h0
    | succ n ih =>
      intro l h
      have ne : l ≠ [] := fun z => by rw [z] at h; cases h
      rw [← List.dropLast_concat_getLast ne]
      exact h1 _ _ (ih _ (by rw [List.length_dropLast, h]; rfl))
  exact key _ l rfl
theorem uniq_mem (l : List α) : ∀ z, z ∈ uniq l ↔ z ∈ l := by
  refine snoc_ind (P := fun l => ∀ z, z ∈ uniq l ↔ z ∈ l) (fun z => Iff.rfl) (fun l y ih z => ?_) l
  rw [uniq_snoc]
  split
  · rename_i h
    rw [List.mem_append, ih]
    exact ⟨.inl, fun e => e.elim id fun e => by rw [List.mem_singleton.mp e]; exact (ih y).mp h⟩
  · rw [List.mem_append, List.mem_append, ih]
end
theorem stAt_of {v : List D} {i : Nat} {z : Str} (h : v[i]? = some (.str z)) : stAt v i = some z := by unfold stAt; rw [h]
theorem two_of {v : List D} {i j : Nat} {a b : Str} (h1 : v[i]? = some (.str a)) (h2 : v[j]? = some (.str b)) : two v i j = some (a, b) := by
  unfold two
  rw [stAt_of h1, stAt_of h2]
end K27
set_option Elab.async false
set_option linter.all false
set_option maxRecDepth 100000
namespace K27
open PySem PySem.Spec PyProof.Rows L2 Evl Kc Kz Kx Tr Mg K23 K22
theorem lay_rows : ∀ {ps : List Mg.Row}, (∀ p ∈ ps, word p.1 ∧ word p.2) → PyData.canLayAll0 (ps.map rowD) = true ∧ PyData.depthAll (ps.map rowD) ≤ 1
  | [], _ => ⟨by simp [PyData.canLayAll0], by simp [PyData.depthAll]⟩
  | p :: ps, w => by
    obtain ⟨a, b⟩ := lay_rows (ps := ps) fun q hq => w q (List.mem_cons_of_mem _ hq)
    obtain ⟨w1, w2⟩ := w p List.mem_cons_self
    constructor
    · simp only [List.map_cons, PyData.canLayAll0, rowD, PyData.canLay0, word_lay w1, word_lay w2, a, Bool.and_self]
      simp only [Bool.and_true, Bool.and_eq_true]
      have l1 := word_lay w1
      have l2 := word_lay w2
      simp only [PyData.canLay0] at l1 l2
      exact ⟨l1, l2⟩
    · simp only [List.map_cons, PyData.depthAll, rowD, PyData.depth]
      exact Nat.max_le.mpr ⟨by decide, b⟩
end K27
set_option Elab.async false
set_option linter.all false
set_option maxRecDepth 100000
namespace K27
open PySem PySem.Spec PyProof.Rows L2 Evl Kc Kz Kx Tr Mg K23 K22
end K27
set_option Elab.async false
set_option linter.all false
set_option maxRecDepth 100000
namespace K27
open PySem PySem.Spec PyProof.Rows L2 Evl Kc Kz Kx Tr Mg K23 K22
end K27
set_option Elab.async false
set_option linter.all false
set_option maxRecDepth 100000
namespace K27
open PySem PySem.Spec PyProof.Rows L2 Evl Kc Kz Kx Tr Mg K23 K22
end K27
set_option Elab.async false
set_option linter.all false
set_option maxRecDepth 100000
namespace K24
open PySem PySem.Spec PyProof.Rows L2 Evl Kc Kz Kx Tr Mg K23 K22 K27
end K24
set_option Elab.async false
set_option linter.all false
set_option maxRecDepth 100000
namespace K24
open PySem PySem.Spec PyProof.Rows L2 Evl Kc Kz Kx Tr Mg K23 K22 K27
end K24
set_option Elab.async false
set_option linter.all false
set_option maxRecDepth 100000
namespace K24
open PySem PySem.Spec PyProof.Rows L2 Evl Kc Kz Kx Tr Mg K23 K22 K27
end K24
set_option Elab.async false
set_option linter.all false
set_option maxRecDepth 100000
namespace K24
open PySem PySem.Spec PyProof.Rows L2 Evl Kc Kz Kx Tr Mg K23 K22 K27
def stL (s : Stp) : List D := [.int s.1, .int s.2.1, .int s.2.2]
end K24
set_option Elab.async false
set_option linter.all false
set_option maxRecDepth 100000
namespace K24
open PySem PySem.Spec PyProof.Rows L2 Evl Kc Kz Kx Tr Mg K23 K22 K27
end K24
set_option Elab.async false
set_option linter.all false
set_option maxRecDepth 100000
namespace KA
open PySem PySem.Spec PyProof.Rows L2 Evl Kc Kz Kx Tr Mg K23 K22 K27
theorem bools_map {k : List Bool → Prop} : ∀ {bs : List Bool}, k bs → boolsK (bs.map PyData.bool) k := by
  intro bs
  induction bs generalizing k with
  | nil => exact id
  | cons b bs ih => intro h; exact ih (k := fun l => k (b :: l)) h
theorem imp_nameA : ∀ as k x, as.length = 1 → F_nameA as k x → fb_is_name (start0 2 as) (Ok k) fun c _ => x c := by
  rintro _ k x _ ⟨d, rfl, sh, hk⟩
  cases d with
  | str z =>
    have sh : z.length ≤ 1000 := sh
    have hk : k (.dat (.bool (decide (1 ≤ (z.length : Int)) && (decide ((z.length : Int) ≤ 8) && z.cps.toList.all fun c => decide (c ∈ abc.cps.toList))))) := hk
    refine ⟨Nat.le_of_lt (small1000 sh), ifs (fun e1 => ifs (fun e2 => ?_) fun e2 => ?_) fun e1 => ?_⟩
    · refine ⟨rfl, ?_⟩
      refine lcF_by (fun i acc ρ => ρ = start0 2 [.dat (.str z)] ∧ acc = ((z.cps.toList.take i).map fun c => decide (c ∈ abc.cps.toList)).map PyData.bool) (fun i d acc ρ hd hI C' hC => ?_) (fun acc ρ hI => ?_) ⟨rfl, rfl⟩
      · obtain ⟨rfl, rfl⟩ := hI
        rw [List.getElem?_map] at hd
        obtain ⟨c, hc, rfl⟩ := Option.map_eq_some_iff.mp hd
        have hi := (List.getElem?_eq_some_iff.mp hc).1
        have hz : z.cps.toList.length = z.length := rfl
        refine ⟨c, rfl, ?_, hC _ _ ⟨rfl, ?_⟩⟩
        · rw [List.length_map, List.length_map, List.length_take]
          exact small1000 (by omega)
        · rw [take_succ hc, List.map_append, List.map_append]
          show _ ++ [PyData.bool (false ^^ decide (c ∈ abc.cps.toList))] = _
          rw [Bool.false_xor]
          rfl
      · obtain ⟨rfl, rfl⟩ := hI
        rw [List.length_map, List.take_length]
        refine bools_map ?_
        rw [show decide (1 ≤ (z.length : Int)) = true from e1, show decide ((z.length : Int) ≤ 8) = true from e2, Bool.true_and, Bool.true_and] at hk
        show k (.dat (.bool ((z.cps.toList.map fun c => decide (c ∈ abc.cps.toList)).all id)))
        rw [List.all_map]
        exact hk
    · rw [show decide ((z.length : Int) ≤ 8) = false from e2, Bool.false_and, Bool.and_false] at hk
      exact hk
    · rw [show decide (1 ≤ (z.length : Int)) = false from e1, Bool.false_and] at hk
      exact hk
  | _ => exact hk
end KA
set_option Elab.async false
set_option linter.all false
set_option maxRecDepth 100000
namespace KA
open PySem PySem.Spec PyProof.Rows L2 Evl Kc Kz Kx Tr Mg K23 K22 K27
theorem imp_lword : ∀ as k x, as.length = 1 → F_nameA as k x → fb_law_is_word (start0 2 as) (Ok k) fun c _ => x c := by
  rintro _ k x _ ⟨d, rfl, sh, hk⟩
  cases d with
  | str z =>
    have sh : z.length ≤ 1000 := sh
    have hk : k (.dat (.bool (decide (1 ≤ (z.length : Int)) && (decide ((z.length : Int) ≤ 8) && z.cps.toList.all fun c => decide (c ∈ abc.cps.toList))))) := hk
    have go : ∀ N : EndsT, (∀ b : Bool, b = (z.cps.toList.all fun c => decide (c ∈ abc.cps.toList)) → N.rt (.dat (.bool b)) (start0 2 [.dat (.str z)])) → (sRet (fB (g1 gAll) (fCons (fLc [1] (iSeq sK (fFrz 0)) (gN 1) fYes (f2 (gIn false) (fVar 1) (fC (.dat (.str "abcdefghijklmnopqrstuvwxyz"))))) fNil))) (start0 2 [.dat (.str z)]) N fun c _ => x c := by
      intro N hN
      refine ⟨rfl, ?_⟩
      refine lcF_by (fun i acc ρ => ρ = start0 2 [.dat (.str z)] ∧ acc = ((z.cps.toList.take i).map fun c => decide (c ∈ abc.cps.toList)).map PyData.bool) (fun i d acc ρ hd hI C' hC => ?_) (fun acc ρ hI => ?_) ⟨rfl, rfl⟩
      · obtain ⟨rfl, rfl⟩ := hI
        rw [List.getElem?_map] at hd
        obtain ⟨c, hc, rfl⟩ := Option.map_eq_some_iff.mp hd
        have hi := (List.getElem?_eq_some_iff.mp hc).1
        have hz : z.cps.toList.length = z.length := rfl
        refine ⟨c, rfl, ?_, hC _ _ ⟨rfl, ?_⟩⟩
        · rw [List.length_map, List.length_map, List.length_take]
          exact small1000 (by omega)
        · rw [take_succ hc, List.map_append, List.map_append]
          show _ ++ [PyData.bool (false ^^ decide (c ∈ abc.cps.toList))] = _
          rw [Bool.false_xor]
          rfl
      · obtain ⟨rfl, rfl⟩ := hI
        rw [List.length_map, List.take_length]
        refine bools_map ?_
        exact hN _ (by rw [List.all_map]; rfl)
    refine ⟨Nat.le_of_lt (small1000 sh), ifs (fun e1 => ifs (fun e2 => ?_) fun e2 => ?_) fun e1 => ?_⟩
    · have e2 : decide ((z.length : Int) ≤ 8) = false := by
        have e2 : (!decide ((z.length : Int) ≤ 8)) = true := e2
        rwa [Bool.not_eq_true'] at e2
      rw [e2, Bool.false_and, Bool.and_false] at hk
      exact hk
    · have e2 : decide ((z.length : Int) ≤ 8) = true := by
        have e2 : (!decide ((z.length : Int) ≤ 8)) = false := e2
        rwa [Bool.not_eq_false'] at e2
      refine go _ fun b hb => ?_
      rw [show decide (1 ≤ (z.length : Int)) = true from e1, e2, Bool.true_and, Bool.true_and] at hk
      rw [hb]
      exact hk
    · rw [show decide (1 ≤ (z.length : Int)) = false from e1, Bool.false_and] at hk
      exact hk
  | _ => exact hk
end KA
set_option Elab.async false
set_option linter.all false
set_option maxRecDepth 100000
namespace KA
open PySem PySem.Spec PyProof.Rows L2 Evl Kc Kz Kx Tr Mg K23 K22 K27
def F_somef : FD := fun as k _ => as = [.pot true] ∧ ∀ rows a b, RowsOk rows a b → a ≤ 4 → b ≤ 4 → 0 < a + b → k (.own false (flD rows))
end KA
set_option Elab.async false
set_option linter.all false
set_option maxRecDepth 100000
namespace KA
open PySem PySem.Spec PyProof.Rows L2 Evl Kc Kz Kx Tr Mg K23 K22 K27
end KA
set_option Elab.async false
set_option linter.all false
set_option maxRecDepth 100000
namespace KA
open PySem PySem.Spec PyProof.Rows L2 Evl Kc Kz Kx Tr Mg K23 K22 K27
def firstBad (rows : List Mg.Row) (ds : List D) : Option Nat := (List.range ds.length).find? (badAt rows ds)
def refused (i : Int) : List D := [.str "refused", .int i]
/-- what is due for d -/
def dueL (rows : List Mg.Row) (d : D) : List D :=
  match seqL d with
  | none => refused (-1)
  | some ds => if 1 ≤ ds.length ∧ ds.length ≤ 40 then (match firstBad rows ds with | some i => refused i | none => [.str "told", .list ds]) else refused (-1)
def GivenOk (d : D) : Prop := (∀ ds, seqL d = some ds → ∀ e ∈ ds, shortVs e ∧ ∀ us, e = .tuple us → us.length ≤ 1000) ∧ (∀ z, d = .str z → z.length ≤ 1000)
def F_metX (C : Addr) : FD := fun as k _ => ∃ (rows : List Mg.Row) (d : D), as = [schO C rows, .dat d] ∧ rows.length ≤ 20 ∧ (∀ r ∈ rows, three r.2) ∧ GivenOk d ∧ k (.own false (.list (dueL rows d)))
theorem first_some {rows : List Mg.Row} {ds : List D} {i : Nat} (h : i < ds.length) (b : badAt rows ds i = true) (n : ∀ m, m < i → badAt rows ds m = false) : firstBad rows ds = some i := by
  unfold firstBad
  rw [List.find?_range_eq_some]
  exact ⟨b, List.mem_range.mpr h, fun j hj => by rw [n j hj]; rfl⟩
theorem first_none {rows : List Mg.Row} {ds : List D} (n : ∀ i, i < ds.length → badAt rows ds i = false) : firstBad rows ds = none := by
  unfold firstBad
  rw [List.find?_eq_none]
  intro i hi
  rw [n i (List.mem_range.mp hi)]
  exact Bool.false_ne_true
end KA
set_option Elab.async false
set_option linter.all false
set_option maxRecDepth 100000
namespace Tr
open PySem PySem.Spec PyProof.Rows PyProof.V L2 Evl Kc Kz Kx
/-- sys.modules lies in the base (GM: walk_M tells it) -/
def Mods (base : Heap) : Prop := ∃ o, base.get? sysModules = some o
section
variable {X : Cx} {s : Shared} {σ : L2.St} {H : Hp} {pins : List (Addr × Obj)}
theorem not_mods (M : Mods X.base) (I : Inv X pins σ H s) {a : Addr} {c : HO} (ho : H a = some c) : a ≠ sysModules := fun e => by
  obtain ⟨o, hk⟩ := M
  have := (I.bs _ _ hk).2
  rw [e, this] at ho
  cases ho
theorem key_reads {h : Heap} (k : Key) (v : Value) (e : keyIs k v = true) : Reads h v (kD k) [] := by
  rcases keyIs_shape e with ⟨i, t, rfl, rfl⟩ | ⟨x, t, rfl, rfl⟩
  · exact .int i t
  · exact .str x t
mutual
theorem Rp.reads (M : Mods X.base) (I : Inv X pins σ H s) : ∀ {v : V} {d : D} {u : Value}, Rp X.K H v d → RelV v u → ∃ as, Reads s.heap u d as ∧ sysModules ∉ as
  | _, _, _, .non, r => by cases r; exact ⟨_, .none, by simp⟩
  | _, _, _, .bl b, r => by cases r; exact ⟨_, .bool b, by simp⟩
  | _, _, _, .int i, r => by obtain ⟨t, rfl⟩ := r; exact ⟨_, .int i t, by simp⟩
  | _, _, _, .str x, r => by obtain ⟨t, rfl⟩ := r; exact ⟨_, .str x t, by simp⟩
  | _, _, _, .lst hs ha, r => by
    cases r
    obtain ⟨its, rv, ⟨o, n, ho, hc, _, hd⟩, _⟩ := I.list (.inl (.inl hs))
    obtain ⟨as, hr, na⟩ := Rps.reads M I ha rv
    exact ⟨_, .list ho hc hd hr, by simp only [List.mem_cons, not_or]; exact ⟨fun e => not_mods M I hs e.symm, na⟩⟩
  | _, _, _, .tup hs ha, r => by
    cases r
    obtain ⟨ys, rv, ⟨ob, ho, hc, m, hd⟩, _⟩ := I.tuple hs
    obtain ⟨as, hr, na⟩ := Rps.reads M I ha rv
    exact ⟨_, .tuple ho hc hd hr, na⟩
  | _, _, _, .dct hs ha, r => by
    cases r
    obtain ⟨_, _, vs, kv, hd⟩ := dk_of I.hok hs
    obtain ⟨as, hr, na⟩ := Rpk.reads M I ha kv
    exact ⟨_, reads_dictOf (knd := mixKind X.prog X.w) (fun k key e => key_reads k key e) hd hr, by simp only [List.mem_cons, not_or]; exact ⟨fun e => not_mods M I hs e.symm, na⟩⟩
theorem Rps.reads (M : Mods X.base) (I : Inv X pins σ H s) : ∀ {vs : List V} {ds : List D} {us : List Value}, Rps X.K H vs ds → Vals vs us → ∃ as, ReadsAll s.heap us ds as ∧ sysModules ∉ as
  | _, _, _, .nil, r => by cases r; exact ⟨_, .nil, by simp⟩
  | _, _, _, .cons h a, r => by
    cases r with
    | cons r1 r2 =>
      obtain ⟨as, h1, n1⟩ := Rp.reads M I h r1
      obtain ⟨bs, h2, n2⟩ := Rps.reads M I a r2
      exact ⟨_, .cons h1 h2, by simp [n1, n2]⟩
theorem Rpk.reads (M : Mods X.base) (I : Inv X pins σ H s) : ∀ {vs : List (Key × V)} {ds : List (D × D)} {us : List (Key × Value)}, Rpk X.K H vs ds → KV vs us → ∃ as, PairsRead s.heap kD us ds as ∧ sysModules ∉ as
  | _, _, _, .nil, r => by cases r; exact ⟨_, .nil, by simp⟩
  | _, _, us, .cons (k := k) h a, r => by
    cases r with
    | @cons _ q _ _ r1 r2 =>
      obtain ⟨e1, r1⟩ := r1
      obtain ⟨k', u⟩ := q
      cases e1
      obtain ⟨as, h1, n1⟩ := Rp.reads M I h r1
      obtain ⟨bs, h2, n2⟩ := Rpk.reads M I a r2
      exact ⟨_, .cons h1 h2, by simp [n1, n2]⟩
end
def rShowX (K : PySem.W.Frag) : List V → Hp → VK → Prop := fun vs H Q =>
  ∃ (v : V) (d : PyData), vs = [v] ∧ Rp K H v d ∧ d.showable = true ∧ d.depth ≤ 40 ∧ d.shown.length ≤ sizeLine ∧ Q (.str d.shown) H
theorem call_showX (M : Mods X.base) (gd : X.A.guards = some []) (un : X.A.units + 64 < cLine) : CallR X (.builtin "repr") (rShowX X.K) := by
  intro pins s σ H xs us Q I rel want
  obtain ⟨v, d, rfl, dp, sh, dep, len, q⟩ := want
  obtain ⟨u, rfl, ru⟩ := vals1 rel
  have gen : ∀ p, u = .ref p → wpAny (model X.prog X.w) X.A (call (.builtin "repr") [u]) (EP X pins σ Q) X.xe s := by
    rintro p rfl
    obtain ⟨as, rd, na⟩ := Rp.reads M I dp ru
    refine repr_of_reads' rd sh (fun _ => na) gd (by omega) (fun _ _ e => e) (fun h' u tk keep => ?_) len
    exact ⟨.str _, H, I.kept keep, ⟨_, rfl⟩, q⟩
  cases dp with
  | non => cases ru; exact PySem.P.repr_of_none ⟨.str _, H, I.tok _, ⟨_, rfl⟩, q⟩
  | bl b => cases ru; exact PySem.P.repr_of_bool ⟨.str _, H, I.tok _, ⟨_, rfl⟩, q⟩
  | int i => obtain ⟨t, rfl⟩ := ru; exact PySem.P.repr_of_int (by simpa [PyData.showable] using sh) ⟨.str _, H, I.tok _, ⟨_, rfl⟩, q⟩
  | str x => obtain ⟨t, rfl⟩ := ru; exact PySem.P.repr_of_str ⟨.str _, H, I.tok _, ⟨_, rfl⟩, q⟩ len
  | lst _ _ => exact gen _ ru
  | tup _ _ => exact gen _ ru
  | dct _ _ => exact gen _ ru
end
section
variable {X : Cx} {k : Nat} {e : Expr} {pos p : Pos} {fr : FA}
def gReprX : D → (Out → Prop) → Prop := fun d k => (d.showable = true ∧ d.depth ≤ 40 ∧ d.shown.length ≤ sizeLine) ∧ k (.val (.str d.shown))
theorem xe_reprX (M : Mods X.base) (gd : X.A.guards = some []) (hr : Room k X.A) (hg : Gl X "repr") (hm : X.mg "repr" = none) (ha : TrA X [e] fr) (he : starEach [e] X.env = (false, eval e X.env) :: starEach [] X.env := by rfl) : TrE X (.Call (.Name "repr" p) [e] [] pos) (fB (g1 gReprX) fr) := by
  refine xe_callB (call_showX M gd hr.units) (fun G H vs ds s pr Q k o h => ?_) hg hm (by decide +kernel) ha (he := he)
  obtain ⟨d, rfl, ⟨h1, h3, h4⟩, h5⟩ := g1_of h
  obtain ⟨v, rfl, hv⟩ := pair1 pr
  exact ⟨v, d, rfl, hv.all s, h1, h3, h4, o.val _ _ (.str _) h5⟩
end
end Tr
set_option Elab.async false
set_option linter.all false
set_option maxRecDepth 100000
namespace Tr
open PySem PySem.Spec PyProof.Rows L2 Evl Kc Kz Kx ClX
def sParL (i j : Nat) (fa fb : FE) : FS := fun ρ N x => fa ρ (fun a ρ1 => match a with
  | .own false (.list ds) => fb ρ1 (fun b ρ2 => fz b fun b' => putK i (.own false (.list ds)) ρ2 fun ρ3 => putK j b' ρ3 N.nx) x
  | _ => False) x
end Tr
set_option Elab.async false
set_option linter.all false
set_option maxRecDepth 100000
set_option maxHeartbeats 4000000
namespace KA
open PySem PySem.Spec PyProof.Rows L2 Evl Kc Kz Kx Tr Mg K23 K22 K27 K24
def F_dueX : FD := fun as k _ => ∃ (rows : List Mg.Row) (d : D), as = [.dat (flD rows), .dat d] ∧ rows.length ≤ 20 ∧ (∀ r ∈ rows, three r.2) ∧ GivenOk d ∧ k (.own false (.list (dueL rows d)))
def F_givenX : FD := fun as k _ => ∃ rows : List Mg.Row, as = [.pot true, .dat (flD rows)] ∧ rows.length ≤ 9 ∧ (∀ r ∈ rows, three r.2) ∧ ∀ vs : List (List D), vs.length ≤ 42 → (∀ v ∈ vs, VerOk 30 rows v) → k (.own false (tups vs))
/-- a tree that can be shown and compared -/
def Lay (d : D) : Prop := d.canLay0 = true ∧ d.depth ≤ 10 ∧ d.showable = true ∧ wt d ≤ 4000000
def ShowX (d : D) : Prop := d.showable = true ∧ d.depth ≤ 40 ∧ d.shown.length ≤ sizeLine
/-- what is given to known_versions -/
def GvOk (d : D) : Prop := GivenOk d ∧ (Lay d ∨ (∃ es, d = .dict es) ∧ ShowX d)
def F_spoiltX : FD := fun as k _ => ∃ (rows : List Mg.Row) (vs : List (List D)), as = [.pot true, .dat (tups vs)] ∧ rows.length ≤ 9 ∧ vs.length ≤ 42 ∧ (∀ v ∈ vs, VerOk 30 rows v) ∧ (∀ d, GvOk d → k (.dat d)) ∧ ∀ ds, GvOk (.list ds) → k (.own false (.list ds))
def fb_law (C : Addr) (D_InvalidVersions : Addr) : FS := (sCons (sFor (iR1 (fCons (fB (g2 gMax2) (fCons (fC (.dat (.int (1)))) (fCons (fB (g2 gMin2) (fCons (fC (.dat (.int (5)))) (fCons (fScrLen (fVar 0)) fNil))) fNil))) fNil)) (gN 1) (sCons (sSet 2 (fCall 2 F_pot (fCons (fVar 0) (fCons (fVar 1) fNil)))) (sCons (sSet 3 (fCall 1 F_somef (fCons (fVar 2) fNil))) (sCons (sSet 4 (fMake C "rows" 1 F_init (fCons (fFrz 3) fNil))) (sCons (sSet 5 (fSl (fCall 2 F_givenX (fCons (fVar 2) (fCons (fFrz 3) fNil))) oNone (oSome (fC (.dat (.int (1))))))) (sCons (sIf (fOr (fTest (f2 gNe (fCall 2 (F_metX C) (fCons (fVar 4) (fCons (f2 gMul (fVar 5) (fC (.dat (.int (40))))) fNil))) (fCall 2 F_dueX (fCons (fFrz 3) (fCons (f2 gMul (fVar 5) (fC (.dat (.int (40))))) fNil))))) (fTest (f2 gNe (fCall 2 (F_metX C) (fCons (fVar 4) (fCons (f2 gMul (fVar 5) (fC (.dat (.int (41))))) fNil))) (fDisp .newl (fCons (fC (.dat (.str "refused"))) (fCons (f1 gNeg (fC (.dat (.int (1))))) fNil)))))) (sRet (fC (.dat (.bool false)))) sNil) (sFor (iR1 (fCons (fC (.dat (.int (4)))) fNil)) (gN 6) (sCons (sSet 7 (fCall 2 F_givenX (fCons (fVar 2) (fCons (fFrz 3) fNil)))) (sCons (sIf (fTest (f2 gEq (fCall 2 F_draw (fCons (fVar 2) (fCons (fC (.dat (.int (2)))) fNil))) (fC (.dat (.int (0)))))) (sSet 7 (fCall 2 F_spoiltX (fCons (fVar 2) (fCons (fFrz 7) fNil)))) sNil) (sCons (sPar 8 9 (fCons (fB (g1 gReprX) (fCons (fFrz 7) fNil)) (fCons (fCall 2 F_dueX (fCons (fFrz 3) (fCons (fFrz 7) fNil))) fNil))) (sCons (sIf (fOr (fTest (f2 (gEqT true) (fB (g1 gReprX) (fCons (fCall 2 (F_metX C) (fCons (fVar 4) (fCons (fFrz 7) fNil))) fNil)) (fB (g1 gReprX) (fCons (fFrz 9) fNil)))) (fTest (f2 (gEqT true) (fB (g1 gReprX) (fCons (fFrz 7) fNil)) (fVar 8)))) (sRet (fC (.dat (.bool false)))) sNil) (sIf (fTest (f2 gEq (f2 gIx (fFrz 9) (fC (.dat (.int (0))))) (fC (.dat (.str "told"))))) (sCons (sExpr (fApN (fCall 2 (F_knownX C D_InvalidVersions) (fSwp (fCons (fFrz 7) (fCons (fVar 4) fNil)))))) (sCons (sIf (fOr (fTest (f2 (gEqT true) (fB (g1 gReprX) (fCons (fCall 2 (F_metX C) (fCons (fVar 4) (fCons (fB (g1 gTuple) (fCons (fFrz 7) fNil)) fNil))) fNil)) (fB (g1 gReprX) (fCons (fFrz 9) fNil)))) (fTest (f2 (gEqT true) (fB (g1 gReprX) (fCons (fFrz 7) fNil)) (fVar 8)))) (sRet (fC (.dat (.bool false)))) sNil) (sCons (sParL 10 11 (fB (g1 gList) (fCons (fFrz 7) fNil)) (fCall 2 F_draw (fCons (fVar 2) (fCons (fB (g1 gLen) (fCons (fFrz 7) fNil)) fNil)))) (sCons (sIf (fTest (f2 gNe (fCall 2 (F_knownX C D_InvalidVersions) (fCons (fVar 4) (fCons (fVar 10) fNil))) (f2 gIx (fFrz 9) (fC (.dat (.int (1))))))) (sRet (fC (.dat (.bool false)))) sNil) (sCons (sPutL 10 11 (fC (.dat (.none)))) (sCons (sIf (fTest (f2 gNe (fCall 2 (F_metX C) (fCons (fVar 4) (fCons (fVar 10) fNil))) (fDisp .newl (fCons (fC (.dat (.str "refused"))) (fCons (fFrz 11) fNil))))) (sRet (fC (.dat (.bool false)))) sNil) (sCons (sSet 12 (f2 gAdd (fB (g1 gList) (fCons (fFrz 7) fNil)) (fB (g1 gList) (fCons (fSl (fFrz 7) oNone (oSome (fC (.dat (.int (1)))))) fNil)))) (sIf (fAnd (fTest (f2 gLt (fB (g1 gLen) (fCons (fFrz 7) fNil)) (fC (.dat (.int (40)))))) (fTest (f2 gNe (fCall 2 (F_metX C) (fCons (fVar 4) (fCons (fFrz 12) fNil))) (fDisp .newl (fCons (fC (.dat (.str "told"))) (fCons (fFrz 12) fNil)))))) (sRet (fC (.dat (.bool false)))) sNil)))))))) sNil)))))))))))) (sRet (fC (.dat (.bool true)))))
end KA
set_option Elab.async false
set_option linter.all false
set_option maxRecDepth 100000
namespace KA
open PySem PySem.Spec PyProof.Rows L2 Evl Kc Kz Kx Tr Mg K23 K22 K27 K24
/-- what a judged version is -/
theorem value_ok {k : Str} {d : D} (t : three k) (h : valueB k d = true) : ∃ n, ValOk n k d := by
  unfold valueB at h
  by_cases c : k = "counter"
  · rw [if_pos c] at h
    cases d <;> first | cases h | skip
    rename_i i
    exact ⟨i.natAbs, c, Nat.lt_two_pow_self⟩
  · rw [if_neg c] at h
    cases d <;> first | cases h | skip
    exact ⟨0, c, h⟩
theorem values_ok : ∀ {rows : List Mg.Row} {ds : List D}, (∀ r ∈ rows, three r.2) → valuesB rows ds = true → ∃ n, VerOk n rows ds
  | [], [], _, _ => ⟨0, .nil⟩
  | [], _ :: _, _, told => nomatch told
  | _ :: _, [], _, told => nomatch told
  | r :: rs, d :: ds, t, h => by
    have h : (valueB r.2 d && valuesB rs ds) = true := h
    rw [Bool.and_eq_true] at h
    obtain ⟨n, v⟩ := value_ok (t r List.mem_cons_self) h.1
    obtain ⟨m, w⟩ := values_ok (fun q hq => t q (List.mem_cons_of_mem _ hq)) h.2
    exact ⟨max n m, .cons (v.up (Nat.le_max_left _ _)) (w.up (Nat.le_max_right _ _))⟩
theorem version_ok {rows : List Mg.Row} {d : D} (t : ∀ r ∈ rows, three r.2) (h : versionB rows d = true) : ∃ v n, d = .tuple v ∧ VerOk n rows v := by
  cases d with
  | tuple v =>
    obtain ⟨n, w⟩ := values_ok t h
    exact ⟨v, n, rfl, w⟩
  | _ => cases h
theorem colA_snoc (ds : List D) (d : D) (j : Nat) : colA (ds ++ [d]) j = colA ds j ++ ((labs (tupL d))[j]?).toList := by
  unfold colA
  exact fm_snoc
end KA
set_option Elab.async false
set_option linter.all false
set_option maxRecDepth 100000
namespace KA
open PySem PySem.Spec PyProof.Rows L2 Evl Kc Kz Kx Tr Mg K23 K22 K27 K24
theorem getD_at {ds : List D} {i : Nat} {d : D} (h : ds[i]? = some d) : ds.getD i .none = d := by rw [List.getD_eq_getElem?_getD, h]; rfl
end KA
set_option Elab.async false
set_option linter.all false
set_option maxRecDepth 100000
namespace KA
open PySem PySem.Spec PyProof.Rows L2 Evl Kc Kz Kx Tr Mg K23 K22 K27 K24
/-- the first m are right -/
theorem right_upto {rows : List Mg.Row} {ds : List D} {m : Nat} (ht : ∀ r ∈ rows, three r.2) (h : ∀ i, i < m → versionB rows (ds.getD i .none) = true) : ∃ vs : List (List D), ds.take m = vs.map PyData.tuple ∧ ∀ v ∈ vs, ∃ n, VerOk n rows v := by
  induction m with
  | zero => exact ⟨[], rfl, fun v hv => nomatch hv⟩
  | succ m ih =>
    obtain ⟨vs, e, w⟩ := ih fun i hi => h i (by omega)
    cases z : ds[m]? with
    | none =>
      refine ⟨vs, ?_, w⟩
      rw [List.take_add_one, z, Option.toList_none, List.append_nil, e]
    | some d =>
      have hm := h m (Nat.lt_succ_self m)
      rw [getD_at z] at hm
      obtain ⟨v, n, rfl, vo⟩ := version_ok ht hm
      refine ⟨vs ++ [v], ?_, fun u hu => ?_⟩
      · rw [List.take_add_one, z, e, List.map_append]
        rfl
      · rcases List.mem_append.mp hu with q | q
        · exact w u q
        · cases List.mem_singleton.mp q
          exact ⟨n, vo⟩
theorem not_bad {rows : List Mg.Row} {ds : List D} {i : Nat} (h : badAt rows ds i = false) : versionB rows (ds.getD i .none) = true := by
  unfold badAt at h
  rw [Bool.or_eq_false_iff] at h
  simpa using h.1
end KA
set_option Elab.async false
set_option linter.all false
set_option maxRecDepth 100000
namespace KA
open PySem PySem.Spec PyProof.Rows L2 Evl Kc Kz Kx Tr Mg K23 K22 K27 K24
end KA
set_option Elab.async false
set_option linter.all false
set_option maxRecDepth 100000
namespace KA
open PySem PySem.Spec PyProof.Rows L2 Evl Kc Kz Kx Tr Mg K23 K22 K27 K24
end KA
set_option Elab.async false
set_option linter.all false
set_option maxRecDepth 100000
namespace KA
open PySem PySem.Spec PyProof.Rows L2 Evl Kc Kz Kx Tr Mg K23 K22 K27 K24
/-- a value without parts -/
def FlOk (d : D) : Prop := d.canLay0 = true ∧ d.depth = 0 ∧ d.showable = true ∧ wt d ≤ 1922 ∧ shortD d
theorem fl_val {n : Nat} {k : Str} {d : D} (hn : n ≤ 1900) (h : ValOk n k d) : FlOk d := by
  obtain ⟨a, b, _⟩ := val_lay h
  obtain ⟨c, _, e⟩ := val_show hn h
  refine ⟨a, b, c, e, ?_⟩
  cases d <;> first | exact trivial | skip
  have := (word_parts h.2).2.1
  show _ ≤ 1000
  omega
theorem fl_int (i : Int) (h : i.natAbs < 2 ^ 100) : FlOk (.int i) := fl_val (n := 100) (k := "counter") (by decide) ⟨rfl, h⟩
theorem fl_all : ∀ {us : List D}, (∀ d ∈ us, FlOk d) → PyData.canLayAll0 us = true ∧ PyData.depthAll us = 0 ∧ PyData.showableAll us = true ∧ wts us ≤ us.length * 1924
  | [], _ => ⟨by simp [PyData.canLayAll0], by simp [PyData.depthAll], by simp [PyData.showableAll], by simp [wts]⟩
  | d :: us, h => by
    obtain ⟨a, b, c, e⟩ := fl_all fun z hz => h z (List.mem_cons_of_mem _ hz)
    obtain ⟨a', b', c', e', _⟩ := h d List.mem_cons_self
    refine ⟨by simp only [PyData.canLayAll0, a, a', Bool.and_self], by simp only [PyData.depthAll, b, b', Nat.max_self], by simp only [PyData.showableAll, c, c', Bool.and_self], ?_⟩
    simp only [wts, List.length_cons]
    omega
/-- an item of what is given -/
def ElOk (d : D) : Prop := d.canLay0 = true ∧ d.depth ≤ 3 ∧ d.showable = true ∧ wt d ≤ 30000 ∧ shortVs d ∧ ∀ us, d = .tuple us → us.length ≤ 1000
theorem el_tup {us : List D} (l : us.length ≤ 12) (h : ∀ d ∈ us, FlOk d) : ElOk (.tuple us) := by
  obtain ⟨a, b, c, e⟩ := fl_all h
  refine ⟨by simp only [PyData.canLay0, a], by simp only [PyData.depth, b]; decide, by simp only [PyData.showable, c], by simp only [wt]; omega, fun d hd => (h d hd).2.2.2.2, fun ws e => ?_⟩
  cases e
  omega
theorem el_all : ∀ {ds : List D}, (∀ d ∈ ds, ElOk d) → PyData.canLayAll0 ds = true ∧ PyData.depthAll ds ≤ 3 ∧ PyData.showableAll ds = true ∧ wts ds ≤ ds.length * 30002
  | [], _ => ⟨by simp [PyData.canLayAll0], by simp [PyData.depthAll], by simp [PyData.showableAll], by simp [wts]⟩
  | d :: ds, h => by
    obtain ⟨a, b, c, e⟩ := el_all fun z hz => h z (List.mem_cons_of_mem _ hz)
    obtain ⟨a', b', c', e', _⟩ := h d List.mem_cons_self
    refine ⟨by simp only [PyData.canLayAll0, a, a', Bool.and_self], by simp only [PyData.depthAll]; exact Nat.max_le.mpr ⟨b', b⟩, by simp only [PyData.showableAll, c, c', Bool.and_self], ?_⟩
    simp only [wts, List.length_cons]
    omega
theorem lay_list {ds : List D} (l : ds.length ≤ 100) (h : ∀ d ∈ ds, ElOk d) : Lay (.list ds) := by
  obtain ⟨a, b, c, e⟩ := el_all h
  exact ⟨by simp only [PyData.canLay0, a], by simp only [PyData.depth]; omega, by simp only [PyData.showable, c], by simp only [wt]; omega⟩
theorem given_seq {d : D} {ds : List D} (hd : d = .list ds ∨ d = .tuple ds) (h : ∀ e ∈ ds, ElOk e) : GivenOk d := by
  refine ⟨fun es e z hz => ?_, fun z e => ?_⟩
  · rcases hd with rfl | rfl <;> (cases Option.some.inj e; exact ⟨(h z hz).2.2.2.2.1, (h z hz).2.2.2.2.2⟩)
  · rcases hd with rfl | rfl <;> cases e
theorem gv_list {ds : List D} (l : ds.length ≤ 100) (h : ∀ d ∈ ds, ElOk d) : GvOk (.list ds) := ⟨given_seq (.inl rfl) h, .inl (lay_list l h)⟩
theorem el_fl {d : D} (f : flatD d = true) (h : FlOk d) : ElOk d := by
  obtain ⟨a, b, c, e, s⟩ := h
  refine ⟨a, by omega, c, by omega, ?_, fun us z => ?_⟩
  · cases d <;> first | exact trivial | cases f
  · subst z
    cases f
theorem fl_str {z : Str} (l : z.length ≤ 12) (h : PyData.canLay0 (.str z) = true) : FlOk (.str z) := ⟨h, by simp [PyData.depth], by simp [PyData.showable], by simp only [wt]; omega, Nat.le_trans l (by decide)⟩
theorem ver_fl {n : Nat} (hn : n ≤ 1900) : ∀ {rows : List Mg.Row} {v : List D}, VerOk n rows v → ∀ d ∈ v, FlOk d
  | _, _, .nil => nofun
  | _, _, .cons h t => fun d hd => by
    rcases List.mem_cons.mp hd with rfl | q
    · exact fl_val hn h
    · exact ver_fl hn t d q
theorem el_ver {rows : List Mg.Row} {v : List D} (hr : rows.length ≤ 9) (h : VerOk 30 rows v) : ElOk (.tuple v) := el_tup (by have := h.len; omega) (ver_fl (by decide) h)
theorem el_vers {rows : List Mg.Row} {vs : List (List D)} (hr : rows.length ≤ 9) (h : ∀ v ∈ vs, VerOk 30 rows v) : ∀ d ∈ vs.map PyData.tuple, ElOk d := fun d hd => by
  obtain ⟨v, hv, rfl⟩ := List.mem_map.mp hd
  exact el_ver hr (h v hv)
theorem lay_sh {d : D} (h : Lay d) : SeqAt.shaped d = true := by
  show (d.canLay0 && decide (d.depth ≤ 64)) = true
  rw [h.1, decide_eq_true (Nat.le_trans h.2.1 (by decide))]
  rfl
theorem lay_show {d : D} (h : Lay d) : ShowX d := ⟨h.2.2.1, Nat.le_trans h.2.1 (by decide), Nat.le_trans (shown_le d h.1 h.2.2.1) (Nat.le_trans h.2.2.2 (by decide))⟩
theorem gv_show {d : D} (h : GvOk d) : ShowX d := by
  rcases h.2 with q | q
  · exact lay_show q
  · exact q.2
end KA
set_option Elab.async false
set_option linter.all false
set_option maxRecDepth 100000
namespace KA
open PySem PySem.Spec PyProof.Rows L2 Evl Kc Kz Kx Tr Mg K23 K22 K27 K24
theorem cut_mem {v : List D} {lo hi : Option Int} {d : D} (h : d ∈ Tr.cutD v lo hi) : d ∈ v := List.mem_of_mem_drop (List.mem_of_mem_take h)
theorem cut_le {v : List D} {lo hi : Option Int} : (Tr.cutD v lo hi).length ≤ v.length := by
  unfold Tr.cutD
  simp only [List.length_take, List.length_drop]
  omega
end KA
set_option Elab.async false
set_option linter.all false
set_option maxRecDepth 100000
namespace KA
open PySem PySem.Spec PyProof.Rows L2 Evl Kc Kz Kx Tr Mg K23 K22 K27 K24
theorem eqT_same {z : Str} {P Q : Prop} (h : Q) : if (true ^^ decide (z = z)) = true then P else Q := by
  rw [decide_eq_true rfl]
  exact h
theorem ne_same {d : D} {P Q : Prop} (c : d.canLay0 = true) (h : Q) : if (!eqD d d) = true then P else Q := by
  rw [show eqD d d = true from SeqAt.eqv_refl d c]
  exact h
/-- told: all versions are right and no label field has more than eight values -/
structure Told (rows : List Mg.Row) (ds : List D) : Prop where
  l1 : 1 ≤ ds.length
  l40 : ds.length ≤ 40
  ok : ∀ i, i < ds.length → badAt rows ds i = false
theorem first_ok {rows : List Mg.Row} {ds : List D} (h : firstBad rows ds = none) : ∀ i, i < ds.length → badAt rows ds i = false := fun i hi => by
  unfold firstBad at h
  rw [List.find?_eq_none] at h
  have hb := h i (List.mem_range.mpr hi)
  simpa using hb
theorem due_cases (rows : List Mg.Row) (d : D) : (∃ i : Int, i.natAbs ≤ 40 ∧ dueL rows d = refused i) ∨ ∃ ds, seqL d = some ds ∧ Told rows ds ∧ dueL rows d = [.str "told", .list ds] := by
  unfold dueL
  cases e : seqL d with
  | none => exact .inl ⟨-1, by decide, rfl⟩
  | some ds =>
    by_cases l : 1 ≤ ds.length ∧ ds.length ≤ 40
    · cases f : firstBad rows ds with
      | none => exact .inr ⟨ds, rfl, ⟨l.1, l.2, first_ok f⟩, by show (if _ then _ else _) = _; rw [if_pos l, f]⟩
      | some i =>
        refine .inl ⟨i, ?_, by show (if _ then _ else _) = _; rw [if_pos l, f]⟩
        unfold firstBad at f
        have := List.mem_range.mp (List.mem_of_find?_eq_some f)
        omega
    · exact .inl ⟨-1, by decide, by show (if _ then _ else _) = _; rw [if_neg l]⟩
theorem due_told {rows : List Mg.Row} {d : D} {ds : List D} (e : seqL d = some ds) (t : Told rows ds) : dueL rows d = [.str "told", .list ds] := by
  unfold dueL
  rw [e]
  show (if _ then _ else _) = _
  rw [if_pos ⟨t.l1, t.l40⟩, first_none t.ok]
theorem seq_cases {d : D} {ds : List D} (h : seqL d = some ds) : d = .list ds ∨ d = .tuple ds := by
  cases d <;> first | cases h | skip
  · exact .inl rfl
  · exact .inr rfl
/-- can be compared and shown -/
structure Fit (d : D) : Prop where
  cl : d.canLay0 = true
  sh : SeqAt.shaped d = true
  sx : ShowX d
theorem fit_of {d : D} (a : d.canLay0 = true) (b : d.depth ≤ 30) (c : d.showable = true) (e : wt d ≤ 16000000) : Fit d := by
  refine ⟨a, ?_, c, Nat.le_trans b (by decide), Nat.le_trans (shown_le d a c) (Nat.le_trans e (by decide))⟩
  show (d.canLay0 && decide (d.depth ≤ 64)) = true
  rw [a, decide_eq_true (Nat.le_trans b (by decide))]
  rfl
theorem fit_ref {i : Int} (h : i.natAbs ≤ 40) : Fit (.list (refused i)) := by
  have ly : Lay (.list (refused i)) := lay_list (by show 2 ≤ 100; decide) fun d hd => by
    unfold refused at hd
    simp only [List.mem_cons, List.not_mem_nil, or_false] at hd
    rcases hd with rfl | rfl
    · exact el_fl rfl (fl_str (by decide) (by decide +kernel))
    · exact el_fl rfl (fl_int i (Nat.lt_of_le_of_lt h (by decide)))
  exact fit_of ly.1 (Nat.le_trans ly.2.1 (by decide)) ly.2.2.1 (Nat.le_trans ly.2.2.2 (by decide))
theorem fit_told {ds : List D} (h : Lay (.list ds)) : Fit (.list [.str "told", .list ds]) := by
  obtain ⟨a, b, c, e⟩ := h
  have s : FlOk (.str "told") := fl_str (by decide) (by decide +kernel)
  obtain ⟨sa, sb, sc, se, _⟩ := s
  refine fit_of ?_ ?_ ?_ ?_
  · simp only [PyData.canLay0, PyData.canLayAll0] at a sa ⊢
    simp only [a, sa, Bool.and_self]
  · simp only [PyData.depth, PyData.depthAll] at b sb ⊢
    omega
  · simp only [PyData.showable, PyData.showableAll] at c sc ⊢
    simp only [c, Bool.and_self]
  · simp only [wt, wts] at e se ⊢
    omega
theorem lay_seq {d : D} {ds : List D} (e : seqL d = some ds) (h : GvOk d) : Lay (.list ds) := by
  rcases h.2 with q | ⟨⟨es, rfl⟩, _⟩
  · rcases seq_cases e with rfl | rfl
    · exact q
    · obtain ⟨a, b, c, w⟩ := q
      simp only [PyData.canLay0, PyData.depth, PyData.showable, wt] at a b c w
      exact ⟨by simp only [PyData.canLay0, a], by simp only [PyData.depth]; exact b, by simp only [PyData.showable, c], by simp only [wt]; exact w⟩
  · cases e
theorem due_fit {rows : List Mg.Row} {d : D} (h : GvOk d) : Fit (.list (dueL rows d)) := by
  rcases due_cases rows d with ⟨i, hi, e⟩ | ⟨ds, e, t, ed⟩
  · rw [e]
    exact fit_ref hi
  · rw [ed]
    exact fit_told (lay_seq e h)
theorem given_list {d : D} {ds : List D} (e : seqL d = some ds) (h : GivenOk d) {c : D} (hc : c = .list ds ∨ c = .tuple ds) : GivenOk c := by
  refine ⟨fun es e2 => ?_, fun z e2 => ?_⟩
  · have : es = ds := by rcases hc with rfl | rfl <;> exact (Option.some.inj e2).symm
    subst this
    exact h.1 es e
  · rcases hc with rfl | rfl <;> cases e2
theorem lay_app : ∀ (a b : List D), PyData.canLayAll0 (a ++ b) = (PyData.canLayAll0 a && PyData.canLayAll0 b) ∧ PyData.depthAll (a ++ b) = max (PyData.depthAll a) (PyData.depthAll b) ∧ PyData.showableAll (a ++ b) = (PyData.showableAll a && PyData.showableAll b) ∧ wts (a ++ b) = wts a + wts b
  | [], b => ⟨by simp [PyData.canLayAll0], by simp [PyData.depthAll], by simp [PyData.showableAll], by simp [wts]⟩
  | d :: a, b => by
    obtain ⟨h1, h2, h3, h4⟩ := lay_app a b
    rw [List.cons_append]
    refine ⟨?_, ?_, ?_, ?_⟩
    · simp only [PyData.canLayAll0, h1, Bool.and_assoc]
    · simp only [PyData.depthAll, h2]
      omega
    · simp only [PyData.showableAll, h3, Bool.and_assoc]
    · simp only [wts, h4]
      omega
theorem fit_more {ds : List D} (h : Lay (.list ds)) : Fit (.list [.str "told", .list (ds ++ ds.take 1)]) := by
  cases ds with
  | nil => exact fit_told h
  | cons d0 ds =>
    show Fit (.list [.str "told", .list (d0 :: ds ++ [d0])])
    obtain ⟨a, b, c, e⟩ := h
    have s : FlOk (.str "told") := fl_str (by decide) (by decide +kernel)
    obtain ⟨sa, sb, sc, se, _⟩ := s
    obtain ⟨h1, h2, h3, h4⟩ := lay_app (d0 :: ds) [d0]
    simp only [PyData.canLay0, PyData.canLayAll0, Bool.and_eq_true, Bool.and_true] at a sa h1
    simp only [PyData.depth, PyData.depthAll] at b sb h2
    simp only [PyData.showable, PyData.showableAll, Bool.and_eq_true, Bool.and_true] at c sc h3
    simp only [wt, wts] at e se h4
    refine fit_of ?_ ?_ ?_ ?_
    · simp only [PyData.canLay0, PyData.canLayAll0, h1, a, sa, Bool.and_self]
    · simp only [PyData.depth, PyData.depthAll, h2, sb]
      omega
    · simp only [PyData.showable, PyData.showableAll, h3, c, Bool.and_self]
    · simp only [wt, wts, h4]
      omega
theorem given_more {ds : List D} (h : GivenOk (.list ds)) : GivenOk (.list (ds ++ ds.take 1)) := by
  refine ⟨fun es e2 z hz => ?_, fun z e2 => by cases e2⟩
  cases Option.some.inj e2
  rcases List.mem_append.mp hz with q | q
  · exact h.1 ds rfl z q
  · exact h.1 ds rfl z (List.mem_of_mem_take q)
/-- an item is no version any more -/
theorem due_put {rows : List Mg.Row} {ds : List D} {m : Nat} (t : Told rows ds) (hm : m < ds.length) : dueL rows (.list (ds.set m .none)) = refused m := by
  unfold dueL
  show (if 1 ≤ (ds.set m .none).length ∧ (ds.set m .none).length ≤ 40 then _ else _) = _
  rw [List.length_set, if_pos ⟨t.l1, t.l40⟩, first_some (i := m) (by rw [List.length_set]; exact hm)]
  · unfold badAt
    rw [getD_at (d := .none) (by rw [List.getElem?_set_self hm])]
    rfl
  · intro i hi
    have := t.ok i (by omega)
    unfold badAt at this ⊢
    rw [show (ds.set m PyData.none).getD i .none = ds.getD i .none by rw [List.getD_eq_getElem?_getD, List.getD_eq_getElem?_getD, List.getElem?_set_ne (by omega)], show (ds.set m PyData.none).take (i + 1) = ds.take (i + 1) by rw [List.take_set_of_le (by omega)]]
    exact this
/-- the first one once more -/
theorem told_more {rows : List Mg.Row} {ds : List D} (t : Told rows ds) (h : ds.length < 40) : Told rows (ds ++ ds.take 1) := by
  obtain ⟨d0, ds', rfl⟩ : ∃ d0 ds', ds = d0 :: ds' := by
    cases ds with
    | nil => have := t.l1; cases this
    | cons a b => exact ⟨a, b, rfl⟩
  have e : (d0 :: ds').take 1 = [d0] := rfl
  rw [e]
  refine ⟨by rw [List.length_append]; exact Nat.le_trans t.l1 (Nat.le_add_right _ _), by rw [List.length_append]; exact h, fun i hi => ?_⟩
  rw [List.length_append] at hi
  have hi : i < (d0 :: ds').length + 1 := hi
  by_cases q : i < (d0 :: ds').length
  · have := t.ok i q
    unfold badAt at this ⊢
    rw [show ((d0 :: ds') ++ [d0]).getD i .none = (d0 :: ds').getD i .none by rw [List.getD_eq_getElem?_getD, List.getD_eq_getElem?_getD, List.getElem?_append_left q], List.take_append_of_le_length (by omega)]
    exact this
  · have ei : i = (d0 :: ds').length := by omega
    have first := t.ok 0 t.l1
    have last := t.ok ((d0 :: ds').length - 1) (by have := t.l1; omega)
    unfold badAt at first last ⊢
    rw [Bool.or_eq_false_iff] at first last ⊢
    rw [show (d0 :: ds').length - 1 + 1 = (d0 :: ds').length by have := t.l1; omega, List.take_length] at last
    refine ⟨?_, ?_⟩
    · rw [show ((d0 :: ds') ++ [d0]).getD i .none = d0 by rw [ei, List.getD_eq_getElem?_getD, List.getElem?_append_right (Nat.le_refl _), Nat.sub_self]; rfl]
      exact first.1
    · rw [List.take_of_length_le (by rw [List.length_append, ei]; exact Nat.le_refl _)]
      rw [List.any_eq_false] at last ⊢
      intro j hj
      have := last.2 j hj
      rw [decide_eq_true_eq] at this ⊢
      rw [colA_snoc]
      have e2 : uniq (colA (d0 :: ds') j ++ ((labs (tupL d0))[j]?).toList) = uniq (colA (d0 :: ds') j) := by
        cases z : (labs (tupL d0))[j]? with
        | none => rw [Option.toList_none, List.append_nil]
        | some y =>
          rw [Option.toList_some, uniq_snoc, if_pos]
          unfold colA
          rw [List.filterMap_cons, z]
          first
          | exact (uniq_mem _ _).mpr List.mem_cons_self
          | exact List.mem_cons_self
      rw [e2]
      exact this
theorem tup_told {rows : List Mg.Row} {ds : List D} (ht : ∀ r ∈ rows, three r.2) (t : Told rows ds) : tupDs ds = true := by
  obtain ⟨vs, e, w⟩ := right_upto (m := ds.length) ht fun i hi => not_bad (t.ok i hi)
  rw [List.take_length] at e
  rw [e]
  clear e t
  induction vs with
  | nil => simp [tupDs]
  | cons v vs ih =>
    obtain ⟨n, hv⟩ := w v List.mem_cons_self
    rw [List.map_cons]
    simp only [tupDs]
    rw [ver_tup hv, ih fun u hu => w u (List.mem_cons_of_mem _ hu)]
    rfl
end KA
set_option Elab.async false
set_option linter.all false
set_option maxRecDepth 100000
namespace KA
open PySem PySem.Spec PyProof.Rows L2 Evl Kc Kz Kx Tr Mg K23 K22 K27 K24
abbrev stL (ns : List Int) (C : Addr) (rows : List Mg.Row) (c1 : Option AV) (one : D) (c6 c7 c8 c9 c10 c11 c12 : Option AV) : S := [some (.scr ns), c1, some (.pot false), some (.dat (flD rows)), some (schO C rows), some (.own false one), c6, c7, c8, c9, c10, c11, c12]
/-- what is known of the fields -/
structure Base (rows : List Mg.Row) : Prop where
  r9 : rows.length ≤ 9
  th : ∀ r ∈ rows, three r.2
theorem Base.r20 {rows : List Mg.Row} (h : Base rows) : rows.length ≤ 20 := Nat.le_trans h.r9 (by decide)
section
variable {ns : List Int} {C Dv : Addr} {rows : List Mg.Row} {c1 c6 c7 c8 c9 c10 c11 c12 : Option AV} {one d : D} {ds : List D} {R : FS} {N : EndsT} {x : KX} {m : Nat}
abbrev C1 (C Dv : Addr) : FS := sExpr (fApN (fCall 2 (F_knownX C Dv) (fSwp (fCons (fFrz 7) (fCons (fVar 4) fNil)))))
theorem c1_run (B : Base rows) (g : GivenOk d) (e : seqL d = some ds) (t : Told rows ds) (h : R (stL ns C rows c1 one c6 (some (.dat d)) c8 c9 c10 c11 c12) N x) :
    sCons (C1 C Dv) R (stL ns C rows c1 one c6 (some (.dat d)) c8 c9 c10 c11 c12) N x := by
  refine ⟨Nat.zero_le 1, rfl, rows, d, rfl, B.r20, B.th, g.1, g.2, fun hn => ?_, fun ds' e' => ?_⟩
  · rw [e] at hn
    cases hn
  · rw [e] at e'
    cases e'
    refine ⟨fun no => absurd ⟨t.l1, t.l40⟩ no, fun _ _ => ⟨fun i hi hb _ => ?_, fun _ => ⟨.inl rfl, small1000 (Nat.le_trans t.l40 (by decide)), h⟩⟩⟩
    rw [t.ok i hi] at hb
    cases hb
abbrev C2 (C : Addr) : FS := sIf (fOr (fTest (f2 (gEqT true) (fB (g1 gReprX) (fCons (fCall 2 (F_metX C) (fCons (fVar 4) (fCons (fB (g1 gTuple) (fCons (fFrz 7) fNil)) fNil))) fNil)) (fB (g1 gReprX) (fCons (fFrz 9) fNil)))) (fTest (f2 (gEqT true) (fB (g1 gReprX) (fCons (fFrz 7) fNil)) (fVar 8)))) (sRet (fC (.dat (.bool false)))) sNil
theorem c2_run (B : Base rows) (g : GvOk d) (e : seqL d = some ds) (t : Told rows ds) (h : R (stL ns C rows c1 one c6 (some (.dat d)) (some (.dat (.str d.shown))) (some (.dat (.list [.str "told", .list ds]))) c10 c11 c12) N x) :
    sCons (C2 C) R (stL ns C rows c1 one c6 (some (.dat d)) (some (.dat (.str d.shown))) (some (.dat (.list [.str "told", .list ds]))) c10 c11 c12) N x := by
  have f := (fit_told (lay_seq e g)).sx
  have sx := gv_show g
  have q : dueL rows (.tuple ds) = [.str "told", .list ds] := due_told rfl t
  have gt := given_list e g.1 (c := .tuple ds) (.inr rfl)
  rcases seq_cases e with rfl | rfl
  · refine ⟨Nat.zero_le 1, rfl, rows, .tuple ds, rfl, B.r20, B.th, gt, .inl rfl, ?_⟩
    rw [q]
    exact ⟨f, f, eqT_same ⟨sx, eqT_same h⟩⟩
  · refine ⟨Nat.zero_le 1, rfl, rows, .tuple ds, rfl, B.r20, B.th, gt, .inl rfl, ?_⟩
    rw [q]
    exact ⟨f, f, eqT_same ⟨sx, eqT_same h⟩⟩
abbrev C3 : FS := sParL 10 11 (fB (g1 gList) (fCons (fFrz 7) fNil)) (fCall 2 F_draw (fCons (fVar 2) (fCons (fB (g1 gLen) (fCons (fFrz 7) fNil)) fNil)))
theorem c3_run (e : seqL d = some ds) (t : Told rows ds) (k10 : Np c10) (k11 : Np c11) (h : ∀ m : Nat, m < ds.length → R (stL ns C rows c1 one c6 (some (.dat d)) c8 c9 (some (.own false (.list ds))) (some (.dat (.int m))) c12) N x) :
    sCons C3 R (stL ns C rows c1 one c6 (some (.dat d)) c8 c9 c10 c11 c12) N x := by
  have l1 := t.l1
  have l40 := t.l40
  have go : ∀ s : Int, 0 ≤ s → s < ds.length → Tr.putK 10 (.own false (.list ds)) (stL ns C rows c1 one c6 (some (.dat d)) c8 c9 c10 c11 c12) fun ρ3 => Tr.putK 11 (.dat (.int s)) ρ3 fun ρ' => R ρ' N x := fun s s0 s1 => by
    obtain ⟨m, rfl⟩ : ∃ m : Nat, s = m := ⟨s.toNat, by omega⟩
    exact Np.put rfl k10 rfl (fun _ => nofun) (Np.put rfl k11 rfl (fun _ => nofun) (h m (by omega)))
  rcases seq_cases e with rfl | rfl
  · exact ⟨Nat.le_refl 1, rfl, (ds.length : Int), rfl, by omega, by omega, fun s s0 s1 => ⟨.inl rfl, go s s0 s1⟩⟩
  · exact ⟨Nat.le_refl 1, rfl, (ds.length : Int), rfl, by omega, by omega, fun s s0 s1 => ⟨.inl rfl, go s s0 s1⟩⟩
abbrev C4 (C Dv : Addr) : FS := sIf (fTest (f2 gNe (fCall 2 (F_knownX C Dv) (fCons (fVar 4) (fCons (fVar 10) fNil))) (f2 gIx (fFrz 9) (fC (.dat (.int (1))))))) (sRet (fC (.dat (.bool false)))) sNil
theorem c4_run (B : Base rows) (g : GvOk d) (e : seqL d = some ds) (t : Told rows ds) (h : R (stL ns C rows c1 one c6 c7 c8 (some (.dat (.list [.str "told", .list ds]))) (some (.own false (.list ds))) c11 c12) N x) :
    sCons (C4 C Dv) R (stL ns C rows c1 one c6 c7 c8 (some (.dat (.list [.str "told", .list ds]))) (some (.own false (.list ds))) c11 c12) N x := by
  have gl := given_list e g.1 (c := .list ds) (.inl rfl)
  have ly := lay_seq e g
  refine ⟨Nat.zero_le 1, rfl, rows, .list ds, rfl, B.r20, B.th, gl.1, gl.2, (fun hn => nomatch hn), fun ds' e' => ?_⟩
  cases Option.some.inj e'
  refine ⟨fun no => absurd ⟨t.l1, t.l40⟩ no, fun _ _ => ⟨fun i hi hb _ => ?_, fun _ => ⟨.inr (tup_told B.th t), .list ds, rfl, ⟨lay_sh ly, lay_sh ly⟩, ne_same ly.1 h⟩⟩⟩
  rw [t.ok i hi] at hb
  cases hb
abbrev C5 : FS := sPutL 10 11 (fC (.dat (.none)))
theorem c5_run (hm : m < ds.length) (h : R (stL ns C rows c1 one c6 c7 c8 c9 (some (.own false (.list (ds.set m .none)))) (some (.dat (.int m))) c12) N x) :
    sCons C5 R (stL ns C rows c1 one c6 c7 c8 c9 (some (.own false (.list ds))) (some (.dat (.int m))) c12) N x := ⟨rfl, m, rfl, hm, h⟩
abbrev C6 (C : Addr) : FS := sIf (fTest (f2 gNe (fCall 2 (F_metX C) (fCons (fVar 4) (fCons (fVar 10) fNil))) (fDisp .newl (fCons (fC (.dat (.str "refused"))) (fCons (fFrz 11) fNil))))) (sRet (fC (.dat (.bool false)))) sNil
theorem given_put {ds : List D} {m : Nat} (h : GivenOk (.list ds)) : GivenOk (.list (ds.set m .none)) := by
  refine ⟨fun es e2 z hz => ?_, fun z e2 => by cases e2⟩
  cases Option.some.inj e2
  rcases List.mem_or_eq_of_mem_set hz with q | rfl
  · exact h.1 ds rfl z q
  · exact ⟨trivial, fun us e => by cases e⟩
theorem c6_run (B : Base rows) (g : GivenOk (.list ds)) (t : Told rows ds) (hm : m < ds.length) (h : R (stL ns C rows c1 one c6 c7 c8 c9 (some (.own false (.list (ds.set m .none)))) (some (.dat (.int m))) c12) N x) :
    sCons (C6 C) R (stL ns C rows c1 one c6 c7 c8 c9 (some (.own false (.list (ds.set m .none)))) (some (.dat (.int m))) c12) N x := by
  have q := due_put t hm
  have f : Fit (.list (refused m)) := fit_ref (by have := t.l40; omega)
  refine ⟨Nat.zero_le 1, rfl, rows, .list (ds.set m .none), rfl, B.r20, B.th, given_put g, ?_⟩
  rw [q]
  exact ⟨.inr (by simp [flAV, tupDs, tupD, refused]), sz (by simp), ⟨f.sh, f.sh⟩, ne_same f.cl h⟩
abbrev C7 : FS := sSet 12 (f2 gAdd (fB (g1 gList) (fCons (fFrz 7) fNil)) (fB (g1 gList) (fCons (fSl (fFrz 7) oNone (oSome (fC (.dat (.int (1)))))) fNil)))
theorem c7_run (e : seqL d = some ds) (t : Told rows ds) (k12 : Np c12) (h : R (stL ns C rows c1 one c6 (some (.dat d)) c8 c9 c10 c11 (some (.own false (.list (ds ++ ds.take 1))))) N x) :
    sCons C7 R (stL ns C rows c1 one c6 (some (.dat d)) c8 c9 c10 c11 c12) N x := by
  have l1 := t.l1
  have l40 := t.l40
  have cut : Tr.cutD ds none (some 1) = ds.take 1 := cut_to (n := 1) l1
  have fin : ds.length + (Tr.cutD ds none (some 1)).length ≤ sizeLine ∧ Tr.putK 12 (.own false (.list (ds ++ Tr.cutD ds none (some 1)))) (stL ns C rows c1 one c6 (some (.dat d)) c8 c9 c10 c11 c12) fun ρ' => R ρ' N x := by
    rw [cut]
    refine ⟨?_, Np.put rfl k12 rfl (fun _ => nofun) h⟩
    rw [List.length_take]
    exact Nat.le_of_lt (small1000 (by omega))
  rcases seq_cases e with rfl | rfl
  · exact fin
  · exact fin
abbrev C8 (C : Addr) : FS := sIf (fAnd (fTest (f2 gLt (fB (g1 gLen) (fCons (fFrz 7) fNil)) (fC (.dat (.int (40)))))) (fTest (f2 gNe (fCall 2 (F_metX C) (fCons (fVar 4) (fCons (fFrz 12) fNil))) (fDisp .newl (fCons (fC (.dat (.str "told"))) (fCons (fFrz 12) fNil)))))) (sRet (fC (.dat (.bool false)))) sNil
theorem c8_run (B : Base rows) (g : GvOk d) (e : seqL d = some ds) (t : Told rows ds) (h : ∀ c12, Np c12 → N.nx (stL ns C rows c1 one c6 (some (.dat d)) c8 c9 c10 c11 c12)) :
    C8 C (stL ns C rows c1 one c6 (some (.dat d)) c8 c9 c10 c11 (some (.own false (.list (ds ++ ds.take 1))))) N x := by
  have gl := given_list e g.1 (c := .list ds) (.inl rfl)
  have f := fit_more (lay_seq e g)
  have go : ∀ P : Prop, ds.length < 40 → (sIf (fTest (f2 gNe (fCall 2 (F_metX C) (fCons (fVar 4) (fCons (fFrz 12) fNil))) (fDisp .newl (fCons (fC (.dat (.str "told"))) (fCons (fFrz 12) fNil))))) (sRet (fC (.dat (.bool false)))) sNil) (stL ns C rows c1 one c6 (some (.dat d)) c8 c9 c10 c11 (some (.own false (.list (ds ++ ds.take 1))))) N x := fun P l => by
    refine ⟨Nat.zero_le 1, rfl, rows, .list (ds ++ ds.take 1), rfl, B.r20, B.th, given_more gl, ?_⟩
    rw [due_told rfl (told_more t l)]
    exact ⟨.inl rfl, sz (by simp), ⟨f.sh, f.sh⟩, ne_same f.cl (h _ fun b hb => by cases hb; rfl)⟩
  have out := h (some (.own false (.list (ds ++ ds.take 1)))) fun b hb => by cases hb; rfl
  rcases seq_cases e with rfl | rfl
  · refine ifs (fun l => ?_) fun _ => out
    exact go True (by have := of_decide_eq_true l; omega)
  · refine ifs (fun l => ?_) fun _ => out
    exact go True (by have := of_decide_eq_true l; omega)
end
end KA
set_option Elab.async false
set_option linter.all false
set_option maxRecDepth 100000
namespace KA
open PySem PySem.Spec PyProof.Rows L2 Evl Kc Kz Kx Tr Mg K23 K22 K27 K24
abbrev ToldF (C Dv : Addr) : FS := sCons (C1 C Dv) (sCons (C2 C) (sCons C3 (sCons (C4 C Dv) (sCons C5 (sCons (C6 C) (sCons C7 (C8 C)))))))
theorem nOwn {d : D} : Np (some (.own false d)) := fun b hb => by cases hb; rfl
theorem nDat {d : D} : Np (some (.dat d)) := fun b hb => by cases hb; rfl
section
variable {ns : List Int} {C Dv : Addr} {rows : List Mg.Row} {c1 c6 c7 c8 c9 c10 c11 c12 : Option AV} {one d : D} {ds : List D} {R : FS} {N : EndsT} {x : KX} {m : Nat}
theorem told_run (B : Base rows) (g : GvOk d) (e : seqL d = some ds) (t : Told rows ds) (k10 : Np c10) (k11 : Np c11) (k12 : Np c12)
    (h : ∀ c10 c11 c12, Np c10 → Np c11 → Np c12 → N.nx (stL ns C rows c1 one c6 (some (.dat d)) (some (.dat (.str d.shown))) (some (.dat (.list [.str "told", .list ds]))) c10 c11 c12)) :
    ToldF C Dv (stL ns C rows c1 one c6 (some (.dat d)) (some (.dat (.str d.shown))) (some (.dat (.list [.str "told", .list ds]))) c10 c11 c12) N x := by
  refine c1_run B g.1 e t (c2_run B g e t (c3_run e t k10 k11 fun m hm => ?_))
  refine c4_run B g e t (c5_run hm (c6_run B (given_list e g.1 (.inl rfl)) t hm (c7_run e t k12 ?_)))
  exact c8_run B g e t fun c12 k12 => h _ _ _ nOwn nDat k12
abbrev B5 (C Dv : Addr) : FS := sIf (fTest (f2 gEq (f2 gIx (fFrz 9) (fC (.dat (.int (0))))) (fC (.dat (.str "told"))))) (ToldF C Dv) sNil
theorem sh_told : SeqAt.shaped (.str "told") = true := by decide +kernel
theorem sh_refused : SeqAt.shaped (.str "refused") = true := by decide +kernel
theorem b5_run (B : Base rows) (g : GvOk d) (k10 : Np c10) (k11 : Np c11) (k12 : Np c12)
    (h : ∀ c8 c9 c10 c11 c12, Np c8 → Np c9 → Np c10 → Np c11 → Np c12 → N.nx (stL ns C rows c1 one c6 (some (.dat d)) c8 c9 c10 c11 c12)) :
    B5 C Dv (stL ns C rows c1 one c6 (some (.dat d)) (some (.dat (.str d.shown))) (some (.dat (.list (dueL rows d)))) c10 c11 c12) N x := by
  rcases due_cases rows d with ⟨i, hi, e⟩ | ⟨ds, e, t, ed⟩
  · rw [e]
    refine ⟨.str "refused", rfl, ⟨sh_refused, sh_told⟩, ?_⟩
    exact h _ _ _ _ _ nDat nDat k10 k11 k12
  · rw [ed]
    refine ⟨.str "told", rfl, ⟨sh_told, sh_told⟩, ?_⟩
    exact told_run B g e t k10 k11 k12 fun c10 c11 c12 => h _ _ c10 c11 c12 nDat nDat
abbrev B4 (C : Addr) : FS := sIf (fOr (fTest (f2 (gEqT true) (fB (g1 gReprX) (fCons (fCall 2 (F_metX C) (fCons (fVar 4) (fCons (fFrz 7) fNil))) fNil)) (fB (g1 gReprX) (fCons (fFrz 9) fNil)))) (fTest (f2 (gEqT true) (fB (g1 gReprX) (fCons (fFrz 7) fNil)) (fVar 8)))) (sRet (fC (.dat (.bool false)))) sNil
theorem b4_run (B : Base rows) (g : GvOk d) (h : R (stL ns C rows c1 one c6 (some (.dat d)) (some (.dat (.str d.shown))) (some (.dat (.list (dueL rows d)))) c10 c11 c12) N x) :
    sCons (B4 C) R (stL ns C rows c1 one c6 (some (.dat d)) (some (.dat (.str d.shown))) (some (.dat (.list (dueL rows d)))) c10 c11 c12) N x := by
  have f := (due_fit (rows := rows) g).sx
  have sx := gv_show g
  exact ⟨Nat.zero_le 1, rfl, rows, d, rfl, B.r20, B.th, g.1, .inl rfl, f, f, eqT_same ⟨sx, eqT_same h⟩⟩
abbrev B3 : FS := sPar 8 9 (fCons (fB (g1 gReprX) (fCons (fFrz 7) fNil)) (fCons (fCall 2 F_dueX (fCons (fFrz 3) (fCons (fFrz 7) fNil))) fNil))
/-- the given value stands in slot 7, still owned or not -/
def G7 (c : Option AV) (d : D) : Prop := c = some (.dat d) ∨ c = some (.own false d)
theorem b3_run (B : Base rows) (g : GvOk d) (h7 : G7 c7 d) (k8 : Np c8) (k9 : Np c9) (h : R (stL ns C rows c1 one c6 (some (.dat d)) (some (.dat (.str d.shown))) (some (.dat (.list (dueL rows d)))) c10 c11 c12) N x) :
    sCons B3 R (stL ns C rows c1 one c6 c7 c8 c9 c10 c11 c12) N x := by
  have sx := gv_show g
  have fin : Tr.putK 8 (.dat (.str d.shown)) (stL ns C rows c1 one c6 (some (.dat d)) c8 c9 c10 c11 c12) fun ρ2 => Tr.putK 9 (.dat (.list (dueL rows d))) ρ2 fun ρ' => R ρ' N x :=
    Np.put rfl k8 rfl (fun _ => nofun) (Np.put rfl k9 rfl (fun _ => nofun) h)
  rcases h7 with rfl | rfl
  · exact ⟨sx, Nat.zero_le 1, rfl, rows, d, rfl, B.r20, B.th, g.1, .inl rfl, fin⟩
  · exact ⟨sx, Nat.zero_le 1, rfl, rows, d, rfl, B.r20, B.th, g.1, .inl rfl, fin⟩
abbrev B2 : FS := sIf (fTest (f2 gEq (fCall 2 F_draw (fCons (fVar 2) (fCons (fC (.dat (.int (2)))) fNil))) (fC (.dat (.int (0)))))) (sSet 7 (fCall 2 F_spoiltX (fCons (fVar 2) (fCons (fFrz 7) fNil)))) sNil
theorem b2_run {vs : List (List D)} (B : Base rows) (lv : vs.length ≤ 42) (vk : ∀ v ∈ vs, VerOk 30 rows v) (h : ∀ d c7, GvOk d → G7 c7 d → R (stL ns C rows c1 one c6 c7 c8 c9 c10 c11 c12) N x) :
    sCons B2 R (stL ns C rows c1 one c6 (some (.own false (tups vs))) c8 c9 c10 c11 c12) N x := by
  have gv : GvOk (tups vs) := gv_list (by rw [List.length_map]; omega) (el_vers B.r9 vk)
  refine ⟨Nat.le_refl 1, rfl, 2, rfl, by decide, by decide, fun q q0 q1 => ⟨.inl rfl, ⟨sh_int _, sh_int _⟩, ifI (fun _ => ?_) fun _ => ?_⟩⟩
  · refine ⟨Nat.le_refl 1, rfl, rows, vs, rfl, B.r9, lv, vk, fun d gd => ⟨.inl rfl, ?_⟩, fun ds gd => ⟨.inl rfl, ?_⟩⟩
    · exact h d _ gd (.inl rfl)
    · exact h (.list ds) _ gd (.inr rfl)
  · exact h (tups vs) _ gv (.inr rfl)
abbrev B1 : FS := sSet 7 (fCall 2 F_givenX (fCons (fVar 2) (fCons (fFrz 3) fNil)))
theorem b1_run (B : Base rows) (k7 : Np c7) (h : ∀ vs : List (List D), vs.length ≤ 42 → (∀ v ∈ vs, VerOk 30 rows v) → R (stL ns C rows c1 one c6 (some (.own false (tups vs))) c8 c9 c10 c11 c12) N x) :
    sCons B1 R (stL ns C rows c1 one c6 c7 c8 c9 c10 c11 c12) N x :=
  ⟨Nat.le_refl 1, rfl, rows, rfl, B.r9, B.th, fun vs lv vk => ⟨.inl rfl, Np.put (a := .own false (tups vs)) rfl k7 rfl (fun _ => nofun) (h vs lv vk)⟩⟩
abbrev TurnF (C Dv : Addr) : FS := sCons B1 (sCons B2 (sCons B3 (sCons (B4 C) (B5 C Dv))))
theorem turns_run (B : Base rows) (k6 : Cl c6) (k7 : Np c7) (k8 : Np c8) (k9 : Np c9) (k10 : Np c10) (k11 : Np c11) (k12 : Np c12)
    (h : ∀ c6 c7 c8 c9 c10 c11 c12, Cl c6 → Np c7 → Np c8 → Np c9 → Np c10 → Np c11 → Np c12 → N.nx (stL ns C rows c1 one c6 c7 c8 c9 c10 c11 c12)) :
    forF (gN 6) (TurnF C Dv) (rngD 0 4) (stL ns C rows c1 one c6 c7 c8 c9 c10 c11 c12) N x := by
  refine forF_by (fun _ ρ => ∃ c6 c7 c8 c9 c10 c11 c12 : Option AV, ρ = stL ns C rows c1 one c6 c7 c8 c9 c10 c11 c12 ∧ Cl c6 ∧ Np c7 ∧ Np c8 ∧ Np c9 ∧ Np c10 ∧ Np c11 ∧ Np c12) (fun i a ρ ha hI C' hC => ?_) (fun ρ hI => ?_) ⟨c6, c7, c8, c9, c10, c11, c12, rfl, k6, k7, k8, k9, k10, k11, k12⟩
  · obtain ⟨c6, c7, c8, c9, c10, c11, c12, rfl, k6, k7, k8, k9, k10, k11, k12⟩ := hI
    refine pd rfl k6 ?_
    refine b1_run (c6 := some (.dat a)) B k7 fun vs lv vk => b2_run B lv vk fun d c7 gd h7 => b3_run B gd h7 k8 k9 (b4_run B gd (b5_run B gd k10 k11 k12 fun c8 c9 c10 c11 c12 k8 k9 k10 k11 k12 => ?_))
    exact hC _ ⟨_, _, _, _, _, _, _, rfl, .dat, nDat, k8, k9, k10, k11, k12⟩
  · obtain ⟨c6, c7, c8, c9, c10, c11, c12, rfl, k6, k7, k8, k9, k10, k11, k12⟩ := hI
    exact h _ _ _ _ _ _ _ k6 k7 k8 k9 k10 k11 k12
def big (n : Nat) (os : List D) : List D := (List.replicate n os).flatten
theorem big_len (n : Nat) (os : List D) : (big n os).length = n * os.length := by
  unfold big
  rw [List.length_flatten, List.map_replicate, List.sum_replicate_nat]
theorem big_el {n : Nat} {os : List D} (h : ∀ e ∈ os, ElOk e) : ∀ e ∈ big n os, ElOk e := fun e he => by
  unfold big at he
  obtain ⟨l, hl, hm⟩ := List.mem_flatten.mp he
  rw [(List.mem_replicate.mp hl).2] at hm
  exact h e hm
abbrev A5 (C : Addr) : FS := sIf (fOr (fTest (f2 gNe (fCall 2 (F_metX C) (fCons (fVar 4) (fCons (f2 gMul (fVar 5) (fC (.dat (.int (40))))) fNil))) (fCall 2 F_dueX (fCons (fFrz 3) (fCons (f2 gMul (fVar 5) (fC (.dat (.int (40))))) fNil))))) (fTest (f2 gNe (fCall 2 (F_metX C) (fCons (fVar 4) (fCons (f2 gMul (fVar 5) (fC (.dat (.int (41))))) fNil))) (fDisp .newl (fCons (fC (.dat (.str "refused"))) (fCons (f1 gNeg (fC (.dat (.int (1))))) fNil)))))) (sRet (fC (.dat (.bool false)))) sNil
theorem a5_run {os : List D} (B : Base rows) (lo : os.length ≤ 1) (el : ∀ e ∈ os, ElOk e) (h : R (stL ns C rows c1 (.list os) c6 c7 c8 c9 c10 c11 c12) N x) :
    sCons (A5 C) R (stL ns C rows c1 (.list os) c6 c7 c8 c9 c10 c11 c12) N x := by
  have g40 : GvOk (.list (big 40 os)) := gv_list (by rw [big_len]; omega) (big_el el)
  have g41 : GvOk (.list (big 41 os)) := gv_list (by rw [big_len]; omega) (big_el el)
  have f := due_fit (rows := rows) g40
  have r : dueL rows (.list (big 41 os)) = refused (-1) := by
    unfold dueL
    show (if 1 ≤ (big 41 os).length ∧ (big 41 os).length ≤ 40 then _ else _) = _
    rw [big_len, if_neg (by omega)]
  have f1 : Fit (.list (refused (-1))) := fit_ref (by decide)
  refine ⟨⟨by decide, by decide, Nat.le_of_lt (small1000 (by show os.length * 40 ≤ 1000; omega))⟩, Nat.zero_le 1, rfl, rows, .list (big 40 os), rfl, B.r20, B.th, g40.1, .inl rfl, ?_⟩
  refine ⟨⟨by decide, by decide, Nat.le_of_lt (small1000 (by show os.length * 40 ≤ 1000; omega))⟩, Nat.zero_le 1, rfl, rows, .list (big 40 os), rfl, B.r20, B.th, g40.1, .inl rfl, ?_⟩
  refine ⟨⟨f.sh, f.sh⟩, ne_same f.cl ?_⟩
  refine ⟨⟨by decide, by decide, Nat.le_of_lt (small1000 (by show os.length * 41 ≤ 1000; omega))⟩, Nat.zero_le 1, rfl, rows, .list (big 41 os), rfl, B.r20, B.th, g41.1, .inl rfl, ?_⟩
  rw [r]
  exact ⟨sz (by simp), ⟨f1.sh, f1.sh⟩, h⟩
abbrev stO (ns : List Int) (c1 c2 c3 c4 c5 c6 c7 c8 c9 c10 c11 c12 : Option AV) : S := [some (.scr ns), c1, c2, c3, c4, c5, c6, c7, c8, c9, c10, c11, c12]
abbrev A4 : FS := sSet 5 (fSl (fCall 2 F_givenX (fCons (fVar 2) (fCons (fFrz 3) fNil))) oNone (oSome (fC (.dat (.int (1))))))
theorem a4_run {c5 : Option AV} (B : Base rows) (k5 : Np c5) (h : ∀ os : List D, os.length ≤ 1 → (∀ e ∈ os, ElOk e) → R (stL ns C rows c1 (.list os) c6 c7 c8 c9 c10 c11 c12) N x) :
    sCons A4 R (stO ns c1 (some (.pot false)) (some (.dat (flD rows))) (some (schO C rows)) c5 c6 c7 c8 c9 c10 c11 c12) N x := by
  refine ⟨Nat.le_refl 1, rfl, rows, rfl, B.r9, B.th, fun vs lv vk => ⟨.inl rfl, ?_⟩⟩
  have el := el_vers B.r9 vk
  refine Np.put (a := .own false (.list (Tr.cutD (vs.map PyData.tuple) none (some 1)))) rfl k5 rfl (fun _ => nofun) (h _ ?_ fun e he => el e (cut_mem he))
  cases vs with
  | nil => exact Nat.le_trans cut_le (Nat.zero_le _)
  | cons v vs =>
    rw [show Tr.cutD (List.map PyData.tuple (v :: vs)) none (some 1) = (List.map PyData.tuple (v :: vs)).take 1 from cut_to (n := 1) (by rw [List.length_map]; exact Nat.succ_pos _)]
    exact List.length_take_le _ _
abbrev A3 (C : Addr) : FS := sSet 4 (fMake C "rows" 1 F_init (fCons (fFrz 3) fNil))
abbrev A2 : FS := sSet 3 (fCall 1 F_somef (fCons (fVar 2) fNil))
theorem a23_run {c3 c4 c5 : Option AV} (k3 : Np c3) (k4 : Np c4) (h : ∀ rows, Base rows → R (stO ns c1 (some (.pot false)) (some (.dat (flD rows))) (some (schO C rows)) c5 c6 c7 c8 c9 c10 c11 c12) N x) :
    sCons A2 (sCons (A3 C) R) (stO ns c1 (some (.pot false)) c3 c4 c5 c6 c7 c8 c9 c10 c11 c12) N x := by
  refine ⟨Nat.le_refl 1, rfl, rfl, fun rows a b ok ha hb h0 => ⟨.inl rfl, ?_⟩⟩
  refine Np.put (a := .own false (flD rows)) rfl k3 rfl (fun _ => nofun) ?_
  refine ⟨rfl, rfl, rfl, rows, a, b, rfl, ok, by omega, by omega, h0, ?_⟩
  refine Np.put (a := schO C rows) rfl k4 rfl (fun _ => nofun) ?_
  exact h rows ⟨by rw [ok.len]; omega, ok.kd⟩
abbrev A1 : FS := sSet 2 (fCall 2 F_pot (fCons (fVar 0) (fCons (fVar 1) fNil)))
theorem a1_run {c2 c3 c4 c5 : Option AV} (k2 : Np c2) (hm : m < 100) (h : R (stO ns (some (.dat (.int m))) (some (.pot false)) c3 c4 c5 c6 c7 c8 c9 c10 c11 c12) N x) :
    sCons A1 R (stO ns (some (.dat (.int m))) c2 c3 c4 c5 c6 c7 c8 c9 c10 c11 c12) N x :=
  ⟨Nat.zero_le 1, rfl, ns, m, rfl, hm, .inl rfl, Np.put (a := .pot false) rfl k2 rfl (fun _ => nofun) h⟩
abbrev A6 (C Dv : Addr) : FS := sFor (iR1 (fCons (fC (.dat (.int (4)))) fNil)) (gN 6) (TurnF C Dv)
abbrev OuterF (C Dv : Addr) : FS := sCons A1 (sCons A2 (sCons (A3 C) (sCons A4 (sCons (A5 C) (A6 C Dv)))))
theorem outer_run {n : Nat} (hn : n ≤ 5) (h : ∀ c1 c2 c3 c4 c5 c6 c7 c8 c9 c10 c11 c12, N.nx (stO ns c1 c2 c3 c4 c5 c6 c7 c8 c9 c10 c11 c12)) :
    forF (gN 1) (OuterF C Dv) (rngD 0 n) (stO ns none none none none none none none none none none none none) N x := by
  refine forF_by (fun _ ρ => ∃ c1 c2 c3 c4 c5 c6 c7 c8 c9 c10 c11 c12 : Option AV, ρ = stO ns c1 c2 c3 c4 c5 c6 c7 c8 c9 c10 c11 c12 ∧ Cl c1 ∧ Np c2 ∧ Np c3 ∧ Np c4 ∧ Np c5 ∧ Cl c6 ∧ Np c7 ∧ Np c8 ∧ Np c9 ∧ Np c10 ∧ Np c11 ∧ Np c12) (fun i a ρ ha hI C' hC => ?_) (fun ρ hI => ?_)
    ⟨none, none, none, none, none, none, none, none, none, none, none, none, rfl, .no, nofun, nofun, nofun, nofun, .no, nofun, nofun, nofun, nofun, nofun, nofun⟩
  · obtain ⟨c1, c2, c3, c4, c5, c6, c7, c8, c9, c10, c11, c12, rfl, k1, k2, k3, k4, k5, k6, k7, k8, k9, k10, k11, k12⟩ := hI
    obtain ⟨hi, rfl⟩ := rngD_get ha
    rw [show (0 : Int) + (i : Nat) = (i : Nat) by omega]
    refine pd rfl k1 ?_
    refine a1_run (m := i) k2 (by omega) (a23_run k3 k4 fun rows B => a4_run B k5 fun os lo el => a5_run B lo el ?_)
    refine ⟨⟨by decide, by decide⟩, ?_⟩
    refine turns_run B k6 k7 k8 k9 k10 k11 k12 fun c6 c7 c8 c9 c10 c11 c12 k6 k7 k8 k9 k10 k11 k12 => ?_
    exact hC _ ⟨_, _, _, _, _, _, _, _, _, _, _, _, rfl, .dat, (fun b hb => by cases hb; rfl), nDat, (fun b hb => by cases hb; rfl), nOwn, k6, k7, k8, k9, k10, k11, k12⟩
  · obtain ⟨c1, c2, c3, c4, c5, c6, c7, c8, c9, c10, c11, c12, rfl, _⟩ := hI
    exact h _ _ _ _ _ _ _ _ _ _ _ _
end
end KA
set_option Elab.async false
set_option linter.all false
set_option maxRecDepth 100000
namespace KA
open PySem PySem.Spec PyProof.Rows L2 Evl Kc Kz Kx Tr Mg K23 K22 K27 K24
theorem defO_imp {P : Program} {w : World} {K : PySem.W.Frag} {mg : Str → Option Value} {base : Heap} {nm : Str} {ps : List Str} {l : Nat} {F F' : FD} (h : ∀ as k x, F' as k x → F as k x) (d : DefO P w K mg base nm ps l F) : DefO P w K mg base nm ps l F' := by
  obtain ⟨f, fd, ok, m, kp, b⟩ := d.ex
  exact ⟨f, fd, ok.imp fun vs H Q E ⟨G, as, k, x, h1, h2, h3, h4, h5⟩ => ⟨G, as, k, x, h1, h2, h3, h _ _ _ h4, h5⟩, m, kp, b⟩
end KA
set_option Elab.async false
set_option linter.all false
set_option maxRecDepth 100000
namespace KB
open PySem PySem.Spec PyProof.Rows L2 Evl Kc Kz Kx Tr Mg K23 K22 K27 K24 KA
mutual
def ok2 : D → Bool
  | .list ds => ok2s ds
  | .tuple ds => ok2s ds
  | .dict _ => true
  | .str z => PyData.canLay0 (.str z)
  | _ => true
def ok2s : List D → Bool
  | [] => true
  | d :: ds => ok2 d && ok2s ds
end
mutual
def w2 : D → Nat
  | .none => 4
  | .bool _ => 5
  | .int _ => 1922
  | .str z => 10 * z.length + 2
  | .list ds => 4 + w2s ds
  | .tuple ds => 4 + w2s ds
  | .dict es => (PyData.dict es).shown.length
def w2s : List D → Nat
  | [] => 0
  | d :: ds => w2 d + 2 + w2s ds
end
def Lay2 (d : D) : Prop := ok2 d = true ∧ d.depth ≤ 10 ∧ d.showable = true ∧ w2 d ≤ 4000000
/-- an item of what is given -/
def El2 (d : D) : Prop := ok2 d = true ∧ d.depth ≤ 4 ∧ d.showable = true ∧ w2 d ≤ 30000 ∧ shortVs d ∧ ∀ us, d = .tuple us → us.length ≤ 1000
end KB
set_option Elab.async false
set_option linter.all false
set_option maxRecDepth 100000
set_option maxHeartbeats 4000000
namespace KB
open PySem PySem.Spec PyProof.Rows L2 Evl Kc Kz Kx Tr Mg K23 K22 K27 K24 KA
end KB
set_option Elab.async false
set_option linter.all false
set_option maxRecDepth 100000
namespace KB
open PySem PySem.Spec PyProof.Rows L2 Evl Kc Kz Kx Tr Mg K23 K22 K27 K24 KA
end KB
set_option Elab.async false
set_option linter.all false
set_option maxRecDepth 100000
namespace KB
open PySem PySem.Spec PyProof.Rows L2 Evl Kc Kz Kx Tr Mg K23 K22 K27 K24 KA
end KB
set_option Elab.async false
set_option linter.all false
set_option maxRecDepth 100000
namespace KB
open PySem PySem.Spec PyProof.Rows L2 Evl Kc Kz Kx Tr Mg K23 K22 K27 K24 KA
end KB
set_option Elab.async false
set_option linter.all false
set_option maxRecDepth 100000
namespace KB
open PySem PySem.Spec PyProof.Rows L2 Evl Kc Kz Kx Tr Mg K23 K22 K27 K24 KA
mutual
theorem shown2_le : ∀ d : D, ok2 d = true → d.showable = true → d.shown.length ≤ w2 d
  | .none, _, g => by have := shown_le .none (by simp [PyData.canLay0]) g; simpa only [wt, w2] using this
  | .bool b, _, g => by have := shown_le (.bool b) (by simp [PyData.canLay0]) g; simpa only [wt, w2] using this
  | .int i, _, g => by have := shown_le (.int i) (by simp [PyData.canLay0]) g; simpa only [wt, w2] using this
  | .str z, h, g => by
    simp only [ok2] at h
    have := shown_le (.str z) h g
    simpa only [wt, w2] using this
  | .list xs, h, g => by
    simp only [ok2] at h
    simp only [PyData.showable] at g
    have h1 := shown2s_le xs h g
    have h2 := text_le (PyData.shownAll xs) 0 "["
    have e : (PyData.list xs).shown.length = (textFrom 0 "[" (PyData.shownAll xs)).length + ("]" : Str).length := by
      simp only [PyData.shown]
      exact str_len_app _ _
    have l1 : ("[" : Str).length = 1 := rfl
    have l2 : ("]" : Str).length = 1 := rfl
    simp only [w2]
    omega
  | .tuple xs, h, g => by
    simp only [ok2] at h
    simp only [PyData.showable] at g
    have h1 := shown2s_le xs h g
    have h2 := join_le (PyData.shownAll xs)
    have e : (PyData.tuple xs).shown.length = ("(" : Str).length + (Str.join ", " (PyData.shownAll xs)).length + ((if (PyData.shownAll xs).length == 1 then ",)" else ")" : String) : Str).length := by
      simp only [PyData.shown]
      exact (str_len_app _ _).trans (congrArg (· + _) (str_len_app _ _))
    have l1 : ("(" : Str).length = 1 := rfl
    have l2 : ((if (PyData.shownAll xs).length == 1 then ",)" else ")" : String) : Str).length ≤ 2 := by split <;> decide
    simp only [w2]
    omega
  | .dict es, _, _ => by simp only [w2]; exact Nat.le_refl _
theorem shown2s_le : ∀ ds : List D, ok2s ds = true → PyData.showableAll ds = true → piled (PyData.shownAll ds) ≤ w2s ds
  | [], _, _ => by simp only [PyData.shownAll, w2s]; decide
  | d :: ds, h, g => by
    simp only [ok2s, Bool.and_eq_true] at h
    simp only [PyData.showableAll, Bool.and_eq_true] at g
    have h1 := shown2_le d h.1 g.1
    have h2 := shown2s_le ds h.2 g.2
    simp only [PyData.shownAll, w2s]
    rw [piled_cons]
    omega
end
/-- a small value -/
def Sm (d : D) : Prop := ok2 d = true ∧ d.depth ≤ 2 ∧ d.showable = true ∧ w2 d ≤ 2200 ∧ shortD d
theorem sm_all : ∀ {us : List D}, (∀ d ∈ us, Sm d) → ok2s us = true ∧ PyData.depthAll us ≤ 2 ∧ PyData.showableAll us = true ∧ w2s us ≤ us.length * 2202
  | [], _ => ⟨by simp [ok2s], by simp [PyData.depthAll], by simp [PyData.showableAll], by simp [w2s]⟩
  | d :: us, h => by
    obtain ⟨a, b, c, e⟩ := sm_all fun z hz => h z (List.mem_cons_of_mem _ hz)
    obtain ⟨a', b', c', e', _⟩ := h d List.mem_cons_self
    refine ⟨by simp only [ok2s, a, a', Bool.and_self], by simp only [PyData.depthAll]; exact Nat.max_le.mpr ⟨b', b⟩, by simp only [PyData.showableAll, c, c', Bool.and_self], ?_⟩
    simp only [w2s, List.length_cons]
    omega
theorem sm_fl {d : D} (f : flatD d = true) (h : FlOk d) : Sm d := by
  obtain ⟨a, b, c, e, s⟩ := h
  refine ⟨?_, by omega, c, ?_, s⟩
  · cases d <;> first | cases f | skip
    all_goals first | (simp only [ok2]; done) | (simp only [ok2]; exact a)
  · cases d <;> first | cases f | skip
    all_goals (simp only [wt, w2] at e ⊢; omega)
theorem sm_int (i : Int) (h : i.natAbs < 2 ^ 100) : Sm (.int i) := sm_fl rfl (fl_int i h)
theorem sm_str {z : Str} (l : z.length ≤ 12) (h : PyData.canLay0 (.str z) = true) : Sm (.str z) := sm_fl rfl (fl_str l h)
theorem el2_tup {us : List D} (l : us.length ≤ 12) (h : ∀ d ∈ us, Sm d) : El2 (.tuple us) := by
  obtain ⟨a, b, c, e⟩ := sm_all h
  refine ⟨by simp only [ok2, a], by simp only [PyData.depth]; omega, by simp only [PyData.showable, c], by simp only [w2]; omega, fun d hd => (h d hd).2.2.2.2, fun ws e => ?_⟩
  cases e
  omega
theorem el2_all : ∀ {ds : List D}, (∀ d ∈ ds, El2 d) → ok2s ds = true ∧ PyData.depthAll ds ≤ 4 ∧ PyData.showableAll ds = true ∧ w2s ds ≤ ds.length * 30002
  | [], _ => ⟨by simp [ok2s], by simp [PyData.depthAll], by simp [PyData.showableAll], by simp [w2s]⟩
  | d :: ds, h => by
    obtain ⟨a, b, c, e⟩ := el2_all fun z hz => h z (List.mem_cons_of_mem _ hz)
    obtain ⟨a', b', c', e', _⟩ := h d List.mem_cons_self
    refine ⟨by simp only [ok2s, a, a', Bool.and_self], by simp only [PyData.depthAll]; exact Nat.max_le.mpr ⟨b', b⟩, by simp only [PyData.showableAll, c, c', Bool.and_self], ?_⟩
    simp only [w2s, List.length_cons]
    omega
theorem lay2_list {ds : List D} (l : ds.length ≤ 120) (h : ∀ d ∈ ds, El2 d) : Lay2 (.list ds) := by
  obtain ⟨a, b, c, e⟩ := el2_all h
  exact ⟨by simp only [ok2, a], by simp only [PyData.depth]; omega, by simp only [PyData.showable, c], by simp only [w2]; omega⟩
theorem lay2_sm {d : D} (h : Sm d) : Lay2 d := ⟨h.1, Nat.le_trans h.2.1 (by decide), h.2.2.1, Nat.le_trans h.2.2.2.1 (by decide)⟩
end KB
set_option Elab.async false
set_option linter.all false
set_option maxRecDepth 100000
namespace KB
open PySem PySem.Spec PyProof.Rows L2 Evl Kc Kz Kx Tr Mg K23 K22 K27 K24 KA
end KB
set_option Elab.async false
set_option linter.all false
set_option maxRecDepth 100000
namespace KB
open PySem PySem.Spec PyProof.Rows L2 Evl Kc Kz Kx Tr Mg K23 K22 K27 K24 KA
abbrev i0 : D := .int 0
end KB
set_option Elab.async false
set_option linter.all false
set_option maxRecDepth 100000
namespace KB
open PySem PySem.Spec PyProof.Rows L2 Evl Kc Kz Kx Tr Mg K23 K22 K27 K24 KA
end KB
set_option Elab.async false
set_option linter.all false
set_option maxRecDepth 100000
namespace KB
open PySem PySem.Spec PyProof.Rows L2 Evl Kc Kz Kx Tr Mg K23 K22 K27 K24 KA
theorem show_two {d e : D} (h1 : Lay2 d) (h2 : Lay2 e) : ShowX (.list [d, e]) := by
  obtain ⟨a, b, c, w⟩ := h1
  obtain ⟨a', b', c', w'⟩ := h2
  have o : ok2 (.list [d, e]) = true := by simp only [ok2, ok2s, a, a', Bool.and_self]
  have s : PyData.showable (.list [d, e]) = true := by simp only [PyData.showable, PyData.showableAll, c, c', Bool.and_self]
  refine ⟨s, ?_, Nat.le_trans (shown2_le _ o s) ?_⟩
  · simp only [PyData.depth, PyData.depthAll]
    omega
  · simp only [w2, w2s]
    exact Nat.le_trans (m := 9000000) (by omega) (by decide)
end KB
set_option Elab.async false
set_option linter.all false
set_option maxRecDepth 100000
namespace KI
open PySem PySem.Spec PyProof.Rows L2 Evl Kc Kz Kx Tr Mg K23 K22 K27 K24 KA KB
def kindB (k : Str) : Bool := decide (three k)
def fieldB : D → Bool
  | .tuple [.str n, .str k] => nameB (.str n) && kindB k
  | _ => false
/-- an item that can be looked at -/
def FOk (d : D) : Prop := shortVs d ∧ ∀ us, d = .tuple us → us.length ≤ 1000
def F_fieldA : FD := fun as k _ => ∃ d : D, as = [.dat d] ∧ FOk d ∧ k (.dat (.bool (fieldB d)))
def rowOf : D → Mg.Row
  | .tuple [.str n, .str k] => (n, k)
  | _ => ("", "")
def most (k : Str) : Nat := if isC k then 4 else 12
def alike (rows : List Mg.Row) (k : Str) : Nat := (rows.filter fun q => isC q.2 == isC k).length
/-- what keeps d from following the rows -/
def probl (rows : List Mg.Row) (d : D) : Option Str :=
  if fieldB d then (if (rowOf d).1 ∈ rows.map (·.1) then some "duplicate" else if alike rows (rowOf d).2 = most (rowOf d).2 then some "many" else none) else some "field"
def optS : Option Str → D
  | some z => .str z
  | none => .none
def F_problemX : FD := fun as k _ => ∃ (rows : List Mg.Row) (d : D), as = [.dat d, .dat (flD rows)] ∧ FOk d ∧ rows.length ≤ 20 ∧ (∀ r ∈ rows, three r.2) ∧ k (.dat (optS (probl rows d)))
/-- the first item that cannot follow, or the rows -/
def scanF : List D → Nat → List Mg.Row → (Str × Nat) ⊕ List Mg.Row
  | [], _, acc => .inr acc
  | d :: ds, i, acc => match probl acc d with
    | some p => .inl (p, i)
    | none => scanF ds (i + 1) (acc ++ [rowOf d])
def judge (d : D) : (Str × Int) ⊕ List Mg.Row :=
  match seqL d with
  | none => .inl ("list", -1)
  | some [] => .inl ("list", -1)
  | some (e :: es) => match scanF (e :: es) 0 [] with
    | .inl p => .inl (p.1, p.2)
    | .inr rows => .inr rows
abbrev exS (D : Addr) (p : Str) (i : Int) : Exn := ⟨D, [("index", .int i), ("problem", .str p)]⟩
/-- rows that can be looked at -/
def AllOk (d : D) : Prop := ∀ ds, seqL d = some ds → ds.length ≤ 100 ∧ ∀ e ∈ ds, FOk e
def F_initX (D : Addr) : FJ := fun as k x => ∃ d, as = [.dat d] ∧ AllOk d ∧ (∀ p i, judge d = .inl (p, i) → x (exS D p i)) ∧ ∀ rows, judge d = .inr rows → k (.tuple (rows.map rowD))
def dueS (d : D) : List D :=
  match judge d with
  | .inl (p, i) => [.str p, .int i]
  | .inr _ => [.str "made"]
def F_met13 : FD := fun as k _ => ∃ d, as = [.dat d] ∧ AllOk d ∧ k (.own false (.list (dueS d)))
def F_words25 : FD := fun as k _ => ∃ n : Nat, as = [.pot true, .dat (.int n)] ∧ n ≤ 25 ∧ ∀ ws : List Str, ws.length = n → ws.Nodup → (∀ z ∈ ws, word z) → k (.own false (.list (sts ws)))
theorem words25 : ∀ as k x, F_words as k x → F_words25 as k x := fun as k x ⟨n, e, hn, hk⟩ => ⟨n, e, by omega, hk⟩
/-- a name of at most m letters, of any sort -/
def Nm (m : Nat) (z : Str) : Prop := PyData.canLay0 (.str z) = true ∧ z.length ≤ m
def kinds7 : List D := [.str "mine", .str "theirs", .str "counter", .str "count", .none, .list [.str "mine"], .str "counter "]
/-- an item; m: how long a name may be -/
def It (m : Nat) (d : D) : Prop := El2 d ∧ ∀ n kd, d = .tuple [.str n, kd] → Nm m n ∧ kd ∈ kinds7
def G13 (m L : Nat) (d : D) : Prop := ShowX d ∧ AllOk d ∧ (∀ z, d = .str z → z.length ≤ 1000) ∧ ∀ ds, d = .list ds → ds.length ≤ L ∧ ∀ e ∈ ds, It m e
def F_spoilt13 : FD := fun as k _ => ∃ (m L : Nat) (d : D), as = [.pot true, .dat d] ∧ 8 ≤ m ∧ m ≤ 40 ∧ L ≤ 60 ∧ G13 m L d ∧ (∀ e, G13 (m + 9) (L + 1) e → k (.dat e)) ∧ ∀ ds, G13 (m + 9) (L + 1) (.list ds) → k (.own false (.list ds))
def F_long : FD := fun as k _ => as = [.pot true] ∧ ∀ rows : List Mg.Row, rows.length ≤ 21 → (∀ r ∈ rows, word r.1 ∧ three r.2) → k (.own false (flD rows))
end KI
set_option Elab.async false
set_option linter.all false
set_option maxRecDepth 100000
set_option maxHeartbeats 4000000
namespace KI
open PySem PySem.Spec PyProof.Rows L2 Evl Kc Kz Kx Tr Mg K23 K22 K27 K24 KA KB
def fb_law_words : FS := (sCons (sSet 2 (fDisp .newl fNil)) (sCons (sFor (iR1 (fCons (fVar 1) fNil)) (gN 3) (sExpr (fMut 2 mAppend (fCons (fCall 2 F_word (fCons (fVar 0) (fCons (fVar 2) fNil))) fNil)))) (sRet (fVar 2))))
def fb_law_met (C : Addr) (D_InvalidSchema : Addr) : FS := (sCons (sSet 1 (fDisp .newl (fCons (fC (.dat (.str "other"))) fNil))) (sCons (sTryAs 2 D_InvalidSchema (sSet 1 (fIf (fTest (f2 gEq (fM0 C (F_sflds C) (fMkX C "rows" 1 (F_initX D_InvalidSchema) (fCons (fVar 0) fNil))) (fB (g1 gList) (fCons (fVar 0) fNil)))) (fDisp .newl (fCons (fC (.dat (.str "made"))) fNil)) (fDisp .newl (fCons (fC (.dat (.str "other"))) fNil)))) (fun a dd => (sCons (sSet 3 (fIsX 2 a D_InvalidSchema dd false)) (sCons (sSet 4 (fAndV (fIsX 2 a D_InvalidSchema dd true) (fIsX 2 a D_InvalidSchema dd true))) (sSet 1 (fIf (fAnd (fTest (fVar 4)) (fNot (fTest (fVar 3)))) (fDisp .newl (fCons (fXf 2 a D_InvalidSchema dd "problem") (fCons (fXf 2 a D_InvalidSchema dd "index") fNil))) (fDisp .newl (fCons (fC (.dat (.str "other"))) fNil)))))))) (sRet (fVar 1))))
def fb_law : FS := (sCons (sFor (iR1 (fCons (fB (g2 gMax2) (fCons (fC (.dat (.int (1)))) (fCons (fB (g2 gMin2) (fCons (fC (.dat (.int (6)))) (fCons (fScrLen (fVar 0)) fNil))) fNil))) fNil)) (gN 1) (sCons (sSet 2 (fCall 2 F_pot (fCons (fVar 0) (fCons (fVar 1) fNil)))) (sFor (iR1 (fCons (fC (.dat (.int (6)))) fNil)) (gN 3) (sCons (sSet 4 (fCall 3 F_fields (fCons (fVar 2) (fCons (f2 gAdd (fC (.dat (.int (1)))) (fCall 2 F_draw (fCons (fVar 2) (fCons (fC (.dat (.int (4)))) fNil)))) (fCons (fCall 2 F_draw (fCons (fVar 2) (fCons (fC (.dat (.int (3)))) fNil))) fNil))))) (sCons (sIf (fTest (f2 gEq (fCall 2 F_draw (fCons (fVar 2) (fCons (fC (.dat (.int (4)))) fNil))) (fC (.dat (.int (0)))))) (sSet 4 (fCall 1 F_long (fCons (fVar 2) fNil))) sNil) (sCons (sFor (iR1 (fCons (fCall 2 F_draw (fCons (fVar 2) (fCons (fC (.dat (.int (3)))) fNil))) fNil)) (gN 5) (sSet 4 (fCall 2 F_spoilt13 (fCons (fVar 2) (fCons (fFrz 4) fNil))))) (sCons (sSet 6 (fB (g1 gReprX) (fCons (fFrz 4) fNil))) (sIf (fOr (fTest (f2 (gEqT true) (fB (g1 gReprX) (fCons (fCall 1 F_met13 (fCons (fFrz 4) fNil)) fNil)) (fB (g1 gReprX) (fCons (fCall 1 F_met13 (fCons (fFrz 4) fNil)) fNil)))) (fTest (f2 (gEqT true) (fB (g1 gReprX) (fCons (fFrz 4) fNil)) (fVar 6)))) (sRet (fC (.dat (.bool false)))) sNil)))))))) (sRet (fC (.dat (.bool true)))))
def fb_is_field : FS := (sCons (sIf (fOr (fNot (fTest (f1 (fun d k => k (.val (.bool (isT "tuple" d)))) (fVar 0)))) (fTest (f2 gNe (fB (g1 gLen) (fCons (fVar 0) fNil)) (fC (.dat (.int (2))))))) (sRet (fC (.dat (.bool false)))) sNil) (sCons (sAsg (fFrz 0) (gT 2 (gsCons (gN 1) (gsCons (gN 2) gsNil)))) (sRet (fAndV (fCall 1 F_nameA (fCons (fVar 1) fNil)) (fAndV (f1 (fun d k => k (.val (.bool (isT "str" d)))) (fVar 2)) (f2 (gIn false) (fVar 2) (fC (.dat (.tuple [.str "mine", .str "theirs", .str "counter"])))))))))
def fb_field_problem (C : Addr) : FS := (sCons (sIf (fNot (fTest (fCall 1 F_fieldA (fCons (fVar 0) fNil)))) (sRet (fC (.dat (.str "field")))) sNil) (sCons (sAsg (fFrz 0) (gT 2 (gsCons (gN 2) (gsCons (gN 3) gsNil)))) (sCons (sIf (fTest (f2 (gIn false) (fVar 2) (fLc [6] (iSeq lK (fFrz 1)) (gN 6) fYes (f2 gIx (fVar 6) (fC (.dat (.int (0)))))))) (sRet (fC (.dat (.str "duplicate")))) sNil) (sCons (sSet 4 (fLc [6] (iSeq lK (fFrz 1)) (gN 6) (fTest (f2 gEq (f2 gEq (f2 gIx (fVar 6) (fC (.dat (.int (1))))) (fC (.dat (.str "counter")))) (f2 gEq (fVar 3) (fC (.dat (.str "counter")))))) (fFrz 6))) (sCons (sSet 5 (fIf (fTest (f2 gEq (fVar 3) (fC (.dat (.str "counter"))))) (fC (.dat (.int 4))) (fC (.dat (.int 12))))) (sRet (fIf (fTest (f2 gEq (fB (g1 gLen) (fCons (fVar 4) fNil)) (fVar 5))) (fC (.dat (.str "many"))) (fC (.dat (.none))))))))))
def fb_init (p : Addr) (D_InvalidSchema : Addr) : S → (D → Prop) → KX → Prop := (lCons (sIf (fOr (fNot (fTest (f1 (fun d k => k (.val (.bool (isT "list" d || isT "tuple" d)))) (fVar 1)))) (fTest (f2 gEq (fB (g1 gLen) (fCons (fVar 1) fNil)) (fC (.dat (.int (0))))))) (sRaise2 D_InvalidSchema "problem" "index" (fCons (fC (.dat (.str "list"))) (fCons (f1 gNeg (fC (.dat (.int (1))))) fNil))) sNil) (lCons (sSet 2 (fDisp .newl fNil)) (lCons (sFor (iEnA (fCons (fFrz 1) fNil)) (gT 2 (gsCons (gN 3) (gsCons (gN 4) gsNil))) (sCons (sSet 5 (fCall 2 F_problemX (fCons (fVar 4) (fCons (fVar 2) fNil)))) (sCons (sIf (fTest (f2 (gIsN true) (fVar 5) (fC (.dat (.none))))) (sRaise2 D_InvalidSchema "problem" "index" (fCons (fFrz 5) (fCons (fFrz 3) fNil))) sNil) (sCons (sAsg (fFrz 4) (gT 2 (gsCons (gN 6) (gsCons (gN 7) gsNil)))) (sExpr (fMut 2 mAppend (fCons (fDisp .newt (fCons (fFrz 6) (fCons (fFrz 7) fNil))) fNil))))))) (lOne p (fB (g1 gTuple) (fCons (fVar 2) fNil))))))
end KI
set_option Elab.async false
set_option linter.all false
set_option maxRecDepth 100000
namespace KI
open PySem PySem.Spec PyProof.Rows L2 Evl Kc Kz Kx Tr Mg K23 K22 K27 K24 KA KB
theorem in_kinds (z : Str) : inD (.str z) [.str "mine", .str "theirs", .str "counter"] = kindB z := by
  have := in_strs (z := z) (ws := ["mine", "theirs", "counter"])
  rw [show (sts ["mine", "theirs", "counter"]) = [PyData.str "mine", .str "theirs", .str "counter"] from rfl] at this
  rw [this]
  unfold kindB three
  simp
theorem field_two (a b : D) : fieldB (.tuple [a, b]) = (nameB a && (match b with | .str k => kindB k | _ => false)) := by
  cases a <;> cases b <;> simp [fieldB, nameB]
theorem field_len {us : List D} (h : us.length ≠ 2) : fieldB (.tuple us) = false := by
  match us, h with
  | [], _ => rfl
  | [a], _ => cases a <;> rfl
  | [_, _], h => exact absurd rfl h
  | a :: b :: _ :: _, _ => cases a <;> first | rfl | (cases b <;> rfl)
theorem two_of {us : List D} (h : us.length = 2) : ∃ a b, us = [a, b] := by
  match us, h with
  | [a, b], _ => exact ⟨a, b, rfl⟩
theorem field_of {d : D} (h : fieldB d = true) : ∃ n k, d = .tuple [.str n, .str k] ∧ word n ∧ three k := by
  cases d with
  | tuple us =>
    by_cases l : us.length = 2
    · obtain ⟨a, b, rfl⟩ := two_of l
      rw [field_two, Bool.and_eq_true] at h
      obtain ⟨h1, h2⟩ := h
      cases a <;> first | cases h1 | skip
      cases b <;> first | cases h2 | skip
      exact ⟨_, _, rfl, h1, of_decide_eq_true h2⟩
    · rw [field_len l] at h
      cases h
  | _ => cases h
theorem imp_fieldA : ∀ as k x, as.length = 1 → F_fieldA as k x → KI.fb_is_field (start0 3 as) (Ok k) fun c _ => x c := by
  rintro _ k x _ ⟨d, rfl, ok, hk⟩
  cases d with
  | tuple us =>
    refine ⟨⟨sh_int _, sh_int _⟩, ifNI (fun z => ?_) fun z => ?_⟩
    · rw [field_len fun e => z (by rw [e]; rfl)] at hk
      exact hk
    · obtain ⟨a, b, rfl⟩ := two_of (show us.length = 2 by omega)
      rw [field_two] at hk
      refine ⟨rfl, Nat.zero_le 1, rfl, a, rfl, ok.1 a List.mem_cons_self, .inl rfl, ifs (fun e => ?_) fun e => ?_⟩
      · rw [e, Bool.true_and] at hk
        cases b with
        | str z =>
          refine ⟨rfl, ?_⟩
          show k (.dat (.bool (false ^^ _)))
          rw [in_kinds, Bool.false_xor]
          exact hk
        | _ => exact hk
      · rw [e, Bool.false_and] at hk
        exact hk
  | _ => exact hk
theorem imp_problemX (C : Addr) : ∀ as k x, as.length = 2 → F_problemX as k x → KI.fb_field_problem C (start0 7 as) (Ok k) fun c _ => x c := by
  rintro _ k x _ ⟨rows, d, rfl, ok, hl, ht', hk⟩
  refine ⟨Nat.zero_le 1, rfl, d, rfl, ok, .inl rfl, ?_⟩
  by_cases f : fieldB d = true
  case neg =>
    rw [Bool.not_eq_true] at f
    unfold probl at hk
    rw [f] at hk ⊢
    exact hk
  obtain ⟨n, kd, rfl, hw, ht⟩ := field_of f
  unfold probl at hk
  rw [if_pos f] at hk
  rw [f]
  refine ⟨rfl, rfl, ?_⟩
  refine lcF_by (fun i acc ρ => ρ = start0 7 [.dat (.tuple [.str n, .str kd]), .dat (flD rows), .dat (.str n), .dat (.str kd)] ∧ acc = sts ((rows.take i).map (·.1))) (fun i d acc ρ hd hI C' hC => ?_) (fun acc ρ hI => ?_) ⟨rfl, rfl⟩
  · obtain ⟨rfl, rfl⟩ := hI
    obtain ⟨q, hq, rfl⟩ := row_get hd
    refine ⟨_, rfl, ?_, hC _ _ ⟨rfl, ?_⟩⟩
    · rw [List.length_map, List.length_map, List.length_take]
      exact small1000 (by omega)
    · rw [take_succ hq, List.map_append]
      show _ = List.map PyData.str (_ ++ _)
      rw [List.map_append]
      rfl
  · obtain ⟨rfl, rfl⟩ := hI
    rw [List.length_map, List.take_length]
    refine ⟨.inl ?_, ?_⟩
    · show (true && (sts _).all flatD) = true
      rw [flat_sts]
      rfl
    rw [in_strs]
    refine ifs (fun e => ?_) fun e => ⟨rfl, ?_⟩
    · have e' : n ∈ rows.map (·.1) := by simpa using e
      rw [if_pos (show (rowOf (.tuple [.str n, .str kd])).1 ∈ rows.map (·.1) from e')] at hk
      exact hk
    have e' : n ∉ rows.map (·.1) := by simpa using e
    rw [if_neg (show ¬ (rowOf (.tuple [.str n, .str kd])).1 ∈ rows.map (·.1) from e')] at hk
    refine lcF_by (fun i acc ρ => ρ = start0 7 [.dat (.tuple [.str n, .str kd]), .dat (flD rows), .dat (.str n), .dat (.str kd)] ∧ acc = ((rows.take i).filter fun q => isC q.2 == isC kd).map rowD) (fun i d acc ρ hd hI C' hC => ?_) (fun acc ρ hI => ?_) ⟨rfl, rfl⟩
    · obtain ⟨rfl, rfl⟩ := hI
      obtain ⟨q, hq, rfl⟩ := row_get hd
      have tq := ht' q (List.mem_of_getElem? hq)
      refine ⟨_, rfl, ⟨three_sh tq, sh_cnt⟩, ⟨three_sh ht, sh_cnt⟩, ⟨sh_bl _, sh_bl _⟩, ?_⟩
      rw [eqB, eqS, eqS]
      refine ifs (fun e => ⟨?_, hC _ _ ⟨rfl, ?_⟩⟩) fun e => hC _ _ ⟨rfl, ?_⟩
      · rw [List.length_map]
        refine small1000 (Nat.le_trans (List.length_filter_le _ _) ?_)
        rw [List.length_take]
        omega
      · rw [take_succ hq, List.filter_append, List.filter_cons_of_pos (by exact e), List.map_append]
        rfl
      · rw [take_succ hq, List.filter_append, List.filter_cons_of_neg (by rw [Bool.not_eq_true]; exact e), List.map_append]
        exact (List.append_nil _).symm
    · obtain ⟨rfl, rfl⟩ := hI
      rw [List.length_map, List.take_length]
      have fin : ∀ m : Nat, m = most kd → ((((rows.filter fun q => isC q.2 == isC kd).map rowD).length : Int) = m ↔ alike rows kd = most kd) := fun m e => by
        rw [List.length_map, e]
        show (((alike rows kd : Nat) : Int) = _) ↔ _
        omega
      have go : ∀ m : Nat, m = most kd → (((((rows.filter fun q => isC q.2 == isC kd).map rowD).length : Int) = m → k (.dat (.str "many"))) ∧ (((((rows.filter fun q => isC q.2 == isC kd).map rowD).length : Int) ≠ m → k (.dat .none)))) := fun m e => by
        constructor
        · intro z
          rw [if_pos (show alike rows (rowOf (.tuple [.str n, .str kd])).2 = most (rowOf (.tuple [.str n, .str kd])).2 from (fin m e).mp z)] at hk
          exact hk
        · intro z
          rw [if_neg (show ¬ alike rows (rowOf (.tuple [.str n, .str kd])).2 = most (rowOf (.tuple [.str n, .str kd])).2 from fun y => z ((fin m e).mpr y))] at hk
          exact hk
      refine ⟨⟨three_sh ht, sh_cnt⟩, ifS (fun e => ?_) fun e => ?_⟩
      · obtain ⟨g1, g2⟩ := go 4 (by unfold most; rw [show isC kd = true from decide_eq_true e]; rfl)
        exact ⟨⟨sh_int _, sh_int _⟩, ifI g1 g2⟩
      · obtain ⟨g1, g2⟩ := go 12 (by unfold most; rw [show isC kd = false from decide_eq_false e]; rfl)
        exact ⟨⟨sh_int _, sh_int _⟩, ifI g1 g2⟩
theorem probl_none {acc : List Mg.Row} {d : D} (h : probl acc d = none) : fieldB d = true := by
  unfold probl at h
  by_cases f : fieldB d = true
  · exact f
  · rw [if_neg f] at h
    cases h
theorem scan_at : ∀ (ds : List D) (i : Nat) (acc : List Mg.Row) (n : Nat) (cur : List Mg.Row), (∀ m, m < n → ∃ d, ds[m]? = some d ∧ probl (acc ++ (ds.take m).map rowOf) d = none) → cur = acc ++ (ds.take n).map rowOf → scanF ds i acc = scanF (ds.drop n) (i + n) cur
  | _, _, _, 0, _, _, e => by rw [e]; simp
  | [], i, acc, n + 1, cur, h, e => by
    obtain ⟨d, hd, _⟩ := h 0 (by omega)
    cases hd
  | d :: ds, i, acc, n + 1, cur, h, e => by
    obtain ⟨d', hd, p⟩ := h 0 (by omega)
    cases Option.some.inj hd
    have p : probl acc d = none := by simpa using p
    rw [show scanF (d :: ds) i acc = scanF ds (i + 1) (acc ++ [rowOf d]) by rw [scanF, p]]
    rw [scan_at ds (i + 1) (acc ++ [rowOf d]) n cur (fun m hm => ?_) (by rw [e]; simp)]
    · rw [show i + 1 + n = i + (n + 1) by omega]
      rfl
    · obtain ⟨c, hc, pc⟩ := h (m + 1) (by omega)
      exact ⟨c, hc, by simpa using pc⟩
theorem judge_seq {d : D} {ds : List D} (h : seqL d = some ds) (h0 : ds ≠ []) : judge d = match scanF ds 0 [] with | .inl p => .inl (p.1, (p.2 : Int)) | .inr rows => .inr rows := by
  unfold judge
  rw [h]
  cases ds with
  | nil => exact absurd rfl h0
  | cons e es => rfl
theorem judge_bad {d : D} {ds : List D} {n : Nat} {e : D} {p : Str} (h : seqL d = some ds) (good : ∀ m, m < n → ∃ d, ds[m]? = some d ∧ probl ((ds.take m).map rowOf) d = none) (he : ds[n]? = some e) (hp : probl ((ds.take n).map rowOf) e = some p) : judge d = .inl (p, (n : Int)) := by
  have hn := (List.getElem?_eq_some_iff.mp he).1
  rw [judge_seq h (fun z => by rw [z] at hn; exact absurd hn (Nat.not_lt_zero _)), scan_at ds 0 [] n ((ds.take n).map rowOf) (by simpa using good) (by simp)]
  rw [List.drop_eq_getElem_cons hn, (List.getElem?_eq_some_iff.mp he).2, scanF, hp, Nat.zero_add]
theorem judge_good {d : D} {ds : List D} (h : seqL d = some ds) (h0 : ds ≠ []) (good : ∀ m, m < ds.length → ∃ d, ds[m]? = some d ∧ probl ((ds.take m).map rowOf) d = none) : judge d = .inr (ds.map rowOf) := by
  rw [judge_seq h h0, scan_at ds 0 [] ds.length (ds.map rowOf) (by simpa using good) (by simp), List.drop_length, scanF]
theorem rows_back : ∀ {ds : List D}, (∀ d ∈ ds, fieldB d = true) → (ds.map rowOf).map rowD = ds
  | [], _ => rfl
  | d :: ds, h => by
    obtain ⟨n, k, rfl, _⟩ := field_of (h d List.mem_cons_self)
    rw [List.map_cons, List.map_cons, rows_back fun e he => h e (List.mem_cons_of_mem _ he)]
    rfl
theorem rows_three {ds : List D} (h : ∀ d ∈ ds, fieldB d = true) : ∀ r ∈ ds.map rowOf, word r.1 ∧ three r.2 := fun r hr => by
  obtain ⟨d, hd, rfl⟩ := List.mem_map.mp hr
  obtain ⟨n, k, rfl, hw, ht⟩ := field_of (h d hd)
  exact ⟨hw, ht⟩
theorem good_all {ds : List D} {n : Nat} (good : ∀ m, m < n → ∃ d, ds[m]? = some d ∧ probl ((ds.take m).map rowOf) d = none) : ∀ d ∈ ds.take n, fieldB d = true := fun d hd => by
  obtain ⟨m, hm⟩ := List.mem_iff_getElem?.mp hd
  have l := (List.getElem?_eq_some_iff.mp hm).1
  rw [List.length_take] at l
  obtain ⟨e, he, pe⟩ := good m (by omega)
  rw [List.getElem?_take_of_lt (by omega), he] at hm
  cases hm
  exact probl_none pe
def cC (rs : List Mg.Row) : Nat := (rs.filter fun q => isC q.2).length
def cL (rs : List Mg.Row) : Nat := (rs.filter fun q => !isC q.2).length
theorem alike_eq (rs : List Mg.Row) (k : Str) : alike rs k = if isC k = true then cC rs else cL rs := by
  unfold alike cC cL
  cases e : isC k with
  | true =>
    rw [if_pos rfl]
    exact congrArg _ (List.filter_congr fun q _ => by cases isC q.2 <;> rfl)
  | false =>
    rw [if_neg (by decide)]
    exact congrArg _ (List.filter_congr fun q _ => by cases isC q.2 <;> rfl)
theorem cC_snoc (rs : List Mg.Row) (r : Mg.Row) : cC (rs ++ [r]) = cC rs + if isC r.2 = true then 1 else 0 := by
  unfold cC
  rw [List.filter_append, List.length_append]
  cases e : isC r.2 with
  | true => simp [e]
  | false => simp [e]
theorem cL_snoc (rs : List Mg.Row) (r : Mg.Row) : cL (rs ++ [r]) = cL rs + if isC r.2 = true then 0 else 1 := by
  unfold cL
  rw [List.filter_append, List.length_append]
  cases e : isC r.2 with
  | true => simp [e]
  | false => simp [e]
theorem c_all : ∀ rs : List Mg.Row, cC rs + cL rs = rs.length
  | [] => rfl
  | r :: rs => by
    have := c_all rs
    unfold cC cL at this ⊢
    rw [List.length_cons]
    cases e : isC r.2 <;> simp [List.filter_cons, e] <;> omega
/-- what may follow leaves the numbers small -/
theorem c_next {acc : List Mg.Row} {d : D} (h : probl acc d = none) (h1 : cC acc ≤ 4) (h2 : cL acc ≤ 12) : cC (acc ++ [rowOf d]) ≤ 4 ∧ cL (acc ++ [rowOf d]) ≤ 12 := by
  have f := probl_none h
  unfold probl at h
  rw [if_pos f] at h
  split at h
  · cases h
  · split at h
    · cases h
    · rename_i h3
      rw [alike_eq] at h3
      unfold most at h3
      rw [cC_snoc, cL_snoc]
      cases e : isC (rowOf d).2 with
      | true =>
        rw [e, if_pos rfl, if_pos rfl] at h3
        rw [if_pos rfl, if_pos rfl]
        omega
      | false =>
        rw [e, if_neg (by decide), if_neg (by decide)] at h3
        rw [if_neg (by decide), if_neg (by decide)]
        omega
theorem good_c {ds : List D} {n : Nat} (good : ∀ m, m < n → ∃ d, ds[m]? = some d ∧ probl ((ds.take m).map rowOf) d = none) : ∀ m, m ≤ n → cC ((ds.take m).map rowOf) ≤ 4 ∧ cL ((ds.take m).map rowOf) ≤ 12 := by
  intro m
  induction m with
  | zero => intro _; exact ⟨Nat.zero_le _, Nat.zero_le _⟩
  | succ m ih =>
    intro hm
    obtain ⟨i1, i2⟩ := ih (by omega)
    obtain ⟨d, hd, pd⟩ := good m (by omega)
    rw [take_succ hd, List.map_append]
    exact c_next pd i1 i2
/-- how many there can be -/
theorem good_len {ds : List D} {n : Nat} (hn : n ≤ ds.length) (good : ∀ m, m < n → ∃ d, ds[m]? = some d ∧ probl ((ds.take m).map rowOf) d = none) : n ≤ 16 := by
  obtain ⟨k1, k2⟩ := good_c good n (Nat.le_refl _)
  have := c_all ((ds.take n).map rowOf)
  rw [List.length_map, List.length_take] at this
  omega
end KI
set_option Elab.async false
set_option linter.all false
set_option maxRecDepth 100000
namespace KI
open PySem PySem.Spec PyProof.Rows L2 Evl Kc Kz Kx Tr Mg K23 K22 K27 K24 KA KB
abbrev Good (ds : List D) (n : Nat) : Prop := ∀ m, m < n → ∃ d, ds[m]? = some d ∧ probl ((ds.take m).map rowOf) d = none
theorem good_snoc {ds : List D} {n : Nat} {e : D} (g : Good ds n) (he : ds[n]? = some e) (hp : probl ((ds.take n).map rowOf) e = none) : Good ds (n + 1) := fun m hm => by
  by_cases q : m = n
  · subst q
    exact ⟨e, he, hp⟩
  · exact g m (by omega)
abbrev InB (D : Addr) : FS := sCons (sSet 5 (fCall 2 F_problemX (fCons (fVar 4) (fCons (fVar 2) fNil)))) (sCons (sIf (fTest (f2 (gIsN true) (fVar 5) (fC (.dat (.none))))) (sRaise2 D "problem" "index" (fCons (fFrz 5) (fCons (fFrz 3) fNil))) sNil) (sCons (sAsg (fFrz 4) (gT 2 (gsCons (gN 6) (gsCons (gN 7) gsNil)))) (sExpr (fMut 2 mAppend (fCons (fDisp .newt (fCons (fFrz 6) (fCons (fFrz 7) fNil))) fNil)))))
abbrev stI (p : Addr) (d : D) (rs : List Mg.Row) (c3 c4 c5 c6 c7 : Option AV) : S := [some (.raw (.ref p)), some (.dat d), some (.own false (.list (rs.map rowD))), c3, c4, c5, c6, c7]
theorem opt_flat (z : Option Str) : tupD (optS z) = true := by cases z <;> simp [optS, tupD]
theorem init_loop {p D : Addr} {d : PyData} {ds : List PyData} {N : EndsT} {x : KX} (hl : ds.length ≤ 100) (ok : ∀ e ∈ ds, FOk e)
    (bad : ∀ n e z, ds[n]? = some e → Good ds n → probl ((ds.take n).map rowOf) e = some z → ∀ ρ, x (exS D z n) ρ) (done : Good ds ds.length → ∀ c3 c4 c5 c6 c7, N.nx (stI p d (ds.map rowOf) c3 c4 c5 c6 c7)) :
    forF (gT 2 (gsCons (gN 3) (gsCons (gN 4) gsNil))) (InB D) (enumD 0 ds) (stI p d [] none none none none none) N x := by
  refine forF_by (fun m ρ => ∃ c3 c4 c5 c6 c7 : Option AV, ρ = stI p d ((ds.take m).map rowOf) c3 c4 c5 c6 c7 ∧ (Cl c3 ∧ Cl c4 ∧ Cl c5 ∧ Cl c6 ∧ Cl c7) ∧ Good ds m) (fun m e ρ he hI C' hC => ?_) (fun ρ hI => ?_) ⟨none, none, none, none, none, rfl, ⟨.no, .no, .no, .no, .no⟩, fun m h => absurd h (Nat.not_lt_zero _)⟩
  · obtain ⟨c3, c4, c5, c6, c7, rfl, ⟨k3, k4, k5, k6, k7⟩, g⟩ := hI
    obtain ⟨a, ha, rfl⟩ := enum_get he
    have lm := (List.getElem?_eq_some_iff.mp ha).1
    have g16 := good_len (Nat.le_of_lt lm) g
    have tr := fun r hr => (rows_three (good_all g) r hr).2
    rw [Nat.zero_add]
    refine ⟨rfl, pd rfl k3 (conK (pd rfl k4 (nilK ?_)))⟩
    refine ⟨Nat.zero_le 1, rfl, (ds.take m).map rowOf, a, rfl, ok a (List.mem_of_getElem? ha), ?_, tr, .inr (opt_flat _), pkd rfl k5 ?_⟩
    · rw [List.length_map, List.length_take]
      omega
    cases q : probl ((ds.take m).map rowOf) a with
    | some z => exact ⟨rfl, rfl, bad m a z ha g q _⟩
    | none =>
      obtain ⟨n, kd, rfl, hw, ht⟩ := field_of (probl_none q)
      refine ⟨rfl, pd rfl k6 (conK (pd rfl k7 (nilK ?_)))⟩
      refine ⟨sz (by simp), rfl, ?_, hC _ ⟨some (.dat (.int (m : Nat))), some (.dat (.tuple [.str n, .str kd])), some (.dat .none), some (.dat (.str n)), some (.dat (.str kd)), ?_, ⟨.dat, .dat, .dat, .dat, .dat⟩, good_snoc g ha q⟩⟩
      · rw [List.length_map, List.length_map, List.length_take]
        exact small1000 (by omega)
      · rw [take_succ ha, List.map_append]
        unfold stI
        rw [List.map_append]
        rfl
  · obtain ⟨c3, c4, c5, c6, c7, rfl, _, g⟩ := hI
    rw [enumD_len] at g ⊢
    rw [List.take_length]
    exact done g c3 c4 c5 c6 c7
theorem imp_initX (D : Addr) : ∀ p as k x, as.length = 1 → F_initX D as k x → KI.fb_init p D (start0 8 (.raw (.ref p) :: as)) k fun c _ => x c := by
  rintro p _ k x _ ⟨d, rfl, ok, bad, good⟩
  have go : ∀ ds, seqL d = some ds → ds ≠ [] → forF (gT 2 (gsCons (gN 3) (gsCons (gN 4) gsNil))) (InB D) (enumD 0 ds) (stI p d [] none none none none none) { nx := fun ρ' => lOne p (fB (g1 gTuple) (fCons (fVar 2) fNil)) ρ' k fun c _ => x c, rt := fun _ _ => False } fun c _ => x c := fun ds e h0 =>
    init_loop (ok ds e).1 (ok ds e).2 (fun n a z ha g q _ => bad z n (judge_bad e g ha q)) fun g c3 c4 c5 c6 c7 => ⟨rfl, good _ (judge_good e h0 g)⟩
  have out : judge d = .inl ("list", -1) → x (exS D "list" (-1)) := bad "list" (-1)
  cases d with
  | list ds =>
    refine ⟨⟨sh_int _, sh_int _⟩, ifI (fun z => ⟨rfl, rfl, out ?_⟩) fun z => ⟨sz (by simp), .inl (go ds rfl fun e => z (by rw [e]; rfl))⟩⟩
    rw [show ds = [] from List.length_eq_zero_iff.mp (by omega)]
    rfl
  | tuple ds =>
    refine ⟨⟨sh_int _, sh_int _⟩, ifI (fun z => ⟨rfl, rfl, out ?_⟩) fun z => ⟨sz (by simp), .inr (go ds rfl fun e => z (by rw [e]; rfl))⟩⟩
    rw [show ds = [] from List.length_eq_zero_iff.mp (by omega)]
    rfl
  | _ => exact ⟨rfl, rfl, out rfl⟩
end KI
set_option Elab.async false
set_option linter.all false
set_option maxRecDepth 100000
namespace KI
open PySem PySem.Spec PyProof.Rows L2 Evl Kc Kz Kx Tr Mg K23 K22 K27 K24 KA KB
end KI
set_option Elab.async false
set_option linter.all false
set_option maxRecDepth 100000
namespace KI
open PySem PySem.Spec PyProof.Rows L2 Evl Kc Kz Kx Tr Mg K23 K22 K27 K24 KA KB
theorem scan_inr : ∀ {ds : List D} {i : Nat} {acc rows : List Mg.Row}, scanF ds i acc = .inr rows → rows = acc ++ ds.map rowOf ∧ ∀ d ∈ ds, fieldB d = true
  | [], i, acc, rows, h => by
    rw [scanF] at h
    cases h
    exact ⟨by simp, nofun⟩
  | d :: ds, i, acc, rows, h => by
    rw [scanF] at h
    cases q : probl acc d with
    | some p => rw [q] at h; cases h
    | none =>
      rw [q] at h
      obtain ⟨e, g⟩ := scan_inr (show scanF ds (i + 1) (acc ++ [rowOf d]) = .inr rows from h)
      refine ⟨by rw [e]; simp, fun c hc => ?_⟩
      rcases List.mem_cons.mp hc with rfl | inRest
      · exact probl_none q
      · exact g c inRest
theorem judge_inr {d : D} {rows : List Mg.Row} (h : judge d = .inr rows) : seqL d = some (rows.map rowD) ∧ ∀ r ∈ rows, word r.1 ∧ three r.2 := by
  unfold judge at h
  cases e : seqL d with
  | none => rw [e] at h; cases (show Sum.inl _ = Sum.inr rows from h)
  | some ds =>
    rw [e] at h
    cases ds with
    | nil => cases h
    | cons c cs =>
      cases q : scanF (c :: cs) 0 [] with
      | inl p =>
        have h : (match scanF (c :: cs) 0 [] with | .inl p => (.inl (p.1, (p.2 : Int)) : (Str × Int) ⊕ List Mg.Row) | .inr rows => .inr rows) = .inr rows := h
        rw [q] at h
        cases h
      | inr rs =>
        have h : (match scanF (c :: cs) 0 [] with | .inl p => (.inl (p.1, (p.2 : Int)) : (Str × Int) ⊕ List Mg.Row) | .inr rows => .inr rows) = .inr rows := h
        rw [q] at h
        cases h
        obtain ⟨er, g⟩ := scan_inr q
        rw [List.nil_append] at er
        rw [er]
        exact ⟨by rw [rows_back g], rows_three g⟩
theorem imp_words25 : ∀ as k x, as.length = 2 → F_words25 as k x → KI.fb_law_words (start0 4 as) (Ok k) fun c _ => x c := by
  rintro _ k x _ ⟨n, rfl, hn, hk⟩
  refine ⟨by decide, ⟨by omega, by omega⟩, ?_⟩
  refine forF_by (fun i ρ => ∃ (ws : List Str) (c : Option AV), ρ = [some (.pot true), some (.dat (.int n)), some (.own false (.list (sts ws))), c] ∧ Cl c ∧ ws.length = i ∧ ws.Nodup ∧ ∀ z ∈ ws, word z) (fun i d ρ hd hI C hC => ?_) (fun ρ hI => ?_) ⟨[], none, rfl, .no, rfl, List.nodup_nil, nofun⟩
  · obtain ⟨ws, c, rfl, hc, l, nd, wk⟩ := hI
    obtain ⟨hi, rfl⟩ := rngD_get hd
    have hi' : i < n := by omega
    refine pd rfl hc ⟨Nat.le_refl 1, rfl, ws, rfl, by omega, fun z hz nz => ⟨.inr (by simp [flAV, tupD]), rfl, ?_, ?_⟩⟩
    · rw [List.length_map]
      exact small1000 (by omega)
    · refine hC _ ⟨ws ++ [z], some (.dat (.int (0 + (i : Nat)))), ?_, .dat, by rw [List.length_append, l]; rfl, ?_, ?_⟩
      · show _ = [some (.pot true), some (.dat (.int n)), some (AV.own false (.list (List.map PyData.str (ws ++ [z])))), some (.dat (.int (0 + (i : Nat))))]
        rw [List.map_append]
        rfl
      · rw [List.nodup_append]
        exact ⟨nd, List.nodup_cons.mpr ⟨nofun, List.nodup_nil⟩, fun a ha b hb e => nz (by rw [← List.mem_singleton.mp hb, ← e]; exact ha)⟩
      · intro y hy
        rcases List.mem_append.mp hy with h | h
        · exact wk y h
        · rw [List.mem_singleton.mp h]
          exact hz
  · obtain ⟨ws, c, rfl, hc, l, nd, wk⟩ := hI
    rw [rngD_len] at l
    exact hk ws (by omega) nd wk
end KI
set_option Elab.async false
set_option linter.all false
set_option maxRecDepth 100000
namespace Tr
open PySem PySem.Spec PyProof.Rows L2 Evl Kc Kz Kx
section
variable {X : Cx} {o e e2 : Expr} {fa fb : FE} {fr : FA} {apos cpos pos p q : Pos}
/-- z.split(y) -/
def gSplit : D → List D → (Out → Prop) → Prop := fun d es k =>
  match d, es with
  | .str a, [.str b] => (b.length == 0) = false ∧ a.length + 2 ≤ sizeLine ∧ k (.newl ((Txt.split a b).map PyData.str))
  | _, _ => False
theorem rps_strs {K : PySem.W.Frag} {G : Hp} : ∀ ys : List Str, Rps K G (ys.map V.str) (ys.map PyData.str)
  | [] => .nil
  | y :: ys => .cons (.str y) (rps_strs ys)
theorem xe_split (ho : TrE X o fa) (ha : TrA X [e] fr) (hbase : attributeBase o "split" X.env (eval o X.env) = eval o X.env := by rfl)
    (hfew : ((backTo cpos (starEach [e] X.env)).all (fun x => !x.1) && (backToKw cpos (keywordEach [] X.env)).all (fun x => x.1.isSome) && decide ([e].length + ([] : List Keyword).length + (if ([] : List Keyword).isEmpty then 0 else 1) < 30)) = true := by rfl)
    (hs : starEach [e] X.env = (false, eval e X.env) :: starEach [] X.env := by rfl) (hline : (apos.endLine == cpos.line) = true := by rfl) (hplain : (backTo cpos (starEach [] X.env)).any (·.1) = false := by rfl) :
    TrE X (.Call (.Attribute o "split" apos) [e] [] cpos) (fMeth gSplit fa fr) := .of (pe_bm PySem.F.plainAttrs_str PySem.F.slot_str_split PySem.F.type_str_split mt_split pe_w pa_w hbase hfew hline hs hplain) (ref_strM (fun G H z vs ds s pr Q k o h => by
  match ds, pr, h with
  | [.str b], pr, h =>
    obtain ⟨v, rfl, hv⟩ := pair1 pr
    obtain rfl := hv.strs
    exact ⟨z, b, rfl, rfl, h.1, h.2.1, fun p n => o.newl p _ _ n (rps_strs _) h.2.2⟩) ho ha)
end
end Tr
namespace Tr
open PySem PySem.Spec PyProof.Rows L2 Evl Kc Kz Kx
section
variable {X : Cx} {o e a b : Expr} {fa fb : FE} {fr : FA} {apos cpos pos p1 p2 p3 : Pos}
/-- f'{a}z{b}' of two texts -/
def txtK (d : D) (k : Str → Prop) : Prop := match d with
  | .str y => k y
  | _ => False
theorem txtK_of {d : D} {k : Str → Prop} (h : txtK d k) : ∃ y, d = .str y ∧ k y := by
  cases d <;> first | exact ⟨_, rfl, h⟩ | exact h.elim
def fFs (z : Str) (fa fb : FE) : FE := fun ρ k x => fa ρ (fun a ρ1 => vw ρ1 a fun d => txtK d fun y => y.length + z.length ≤ 500000 ∧ fb ρ1 (fun b ρ2 => vw ρ2 b fun e => txtK e fun w => w.length ≤ 500000 ∧ k (.dat (.str (y ++ z ++ w))) ρ2) x) x
theorem app_len (a b : Str) : (a ++ b).length = a.length + b.length := Array.size_append
theorem empty_app (y : Str) : Str.empty ++ y = y := by
  cases y with
  | mk c => show (⟨#[] ++ c⟩ : Str) = _; rw [Array.empty_append]
theorem xe_fs {z : Str} {j : Nat} (ha : TrE X a fa) (hb : TrE X b fb) : TrE X (.JoinedStr [.FormattedValue a (-1) none p1, .Constant (.str z) j p2, .FormattedValue b (-1) none p3] pos) (fFs z fa fb) :=
  .of (pe_joined (.cons (pe_fmt pe_w) (.cons pe_str (.cons (pe_fmt pe_w) .nil)))) fun W E ρ G σ H Q k x tk R lx lk hf => by
  have top : 1000000 ≤ sizeLine := by decide
  refine ha W E ρ G σ H _ _ x tk R lx (fun c ρ1 G1 v H1 e1 R1 q1 h1 => ?_) hf
  obtain ⟨d, vd, h1⟩ := q1.vw R1 h1
  obtain ⟨y, rfl, l1, h1⟩ := txtK_of h1
  obtain rfl := vd.strs
  refine .inl ⟨y, rfl, by omega, y, rfl, by rw [empty_app]; omega, z, rfl, by rw [empty_app, app_len]; omega, ?_⟩
  refine hb W E ρ1 G1 σ H1 _ _ x tk R1 lx (fun c ρ2 G2 u H2 e2 R2 q2 h2 => ?_) h1
  obtain ⟨d, vd, h2⟩ := q2.vw R2 h2
  obtain ⟨w, rfl, l2, h2⟩ := txtK_of h2
  obtain rfl := vd.strs
  refine .inl ⟨w, rfl, by omega, w, rfl, by rw [empty_app, app_len, app_len]; omega, ?_⟩
  rw [empty_app]
  exact lk (.dat (.str (y ++ z ++ w))) ρ2 G2 _ H2 (e1.trans e2) R2 (.dat (.str _)) h2
end
end Tr
set_option Elab.async false
set_option linter.all false
set_option maxRecDepth 100000
namespace Tr
open PySem PySem.Spec PyProof.Rows L2 Evl Kc Kz Kx
section
variable {X : Cx} {CX : CXT} {k n i : Nat} {f C : Addr} {fd : FuncData} {ps : List Str} {sp : Sp} {E : L2.St → XK} {x self fl : Str} {p pos : Pos} {e : Expr} {es : List Expr} {t : TA} {F : FJ} {fr : FA}
def tMk1 (C : Addr) (sp : Sp) (E : XK) (t : TA) : TE := fun σ H Q => t σ H fun zs H1 => ∀ q dx, H1 q = none → H1 dx = none → dx ≠ q → sp (.ref q :: zs) (upd (upd H1 dx (.own q)) q (.ins C dx [])) (fun r H2 => r = .non ∧ Q (.ref q) H2) E
theorem run_mk1 {pins : List (Addr × Obj)} {σ : L2.St} {H : Hp} {s : Shared} {Q : VK} {ws : List Value} {zs : List V} {E : XK} (M : Mk X.K C f) (Fn : FnOk X.prog X.w X.K X.mg X.base CX k f fd ps sp) (room : Room (k + 1) X.A) (bd : Binds X.K fd ps []) (pass : PassesAt CX X σ E) (I : Inv X pins σ H s) (rz : Vals zs ws)
    (want : ∀ q dx, H q = none → H dx = none → dx ≠ q → sp (.ref q :: zs) (upd (upd H dx (.own q)) q (.ins C dx [])) (fun r H2 => r = .non ∧ Q (.ref q) H2) E) : wpAny (model X.prog X.w) X.A (call (.ref C) ws) (EP X pins σ Q) X.xe s := by
  have w2 := want (s.heap.objs.size + 1) s.heap.objs.size (I.hok.fresh (Nat.le_add_right _ 1)) (I.hok.fresh (Nat.le_refl _)) (Nat.ne_of_lt (Nat.lt_add_one _))
  have J := Inv.made (C := C) I
  have rr : Vals (V.ref (s.heap.objs.size + 1) :: zs) (Value.ref (s.heap.objs.size + 1) :: ws) := .cons rfl rz
  have ln : (Value.ref (s.heap.objs.size + 1) :: ws).length = ps.length := rr.length.symm.trans (Fn.len _ _ _ _ w2)
  have bb := bd _ (Value.ref (s.heap.objs.size + 1) :: ws) J.kIn (by rw [List.append_nil]; exact ln)
  rw [List.append_nil] at bb
  have go := Fn.run _ X.stack _ _ ⟨Value.ref (s.heap.objs.size + 1) :: ws, []⟩ _ _ _ E (room.make C ws []) (J.env0.make C ws []) bb rr w2
  refine wpAny_call (make_map (f := f) I.kIn M.makes M.init (beq_iff_eq.mp M.fn) (codeAny_mono go fun r s' post => ?_))
  match r, post with
  | .error er, post => exact pass pins _ _ er s' J post
  | .ok (.ret u), post =>
    obtain ⟨r2, H', J2, rel, er, q2⟩ := J.after post
    cases er
    exact ⟨rel, .ref (s.heap.objs.size + 1), H', J2, rfl, q2⟩
  | .ok .next, post => exact post.elim
  | .ok .brk, post => exact post.elim
  | .ok .cont, post => exact post.elim
/-- x(e, ..), the name x holds the class at C -/
theorem pe_mkV {E : L2.St → XK} (M : Mk X.K C f) (Fn : FnOk X.prog X.w X.K X.mg X.base CX k f fd ps sp) (room : Room (k + 1) X.A) (bd : Binds X.K fd ps []) (pass : ∀ σ, PassesAt CX X σ (E σ)) (hN : X.N[i]? = some x) (hv : Vis X.env.scope x) (ha : PA X (e :: es) t)
    (hd : (x == ("__debug__" : Str)) = false := by decide) (hcd : (x == ("__classdict__" : Str)) = false := by decide) (he : starEach (e :: es) X.env = (false, eval e X.env) :: starEach es X.env := by rfl) (hpl : (backTo pos (starEach es X.env)).any (·.1) = false := by rfl) :
    PE X (.Call (.Name x p) (e :: es) [] pos) (fun σ H Q => σ[i]? = some (some (.ref C)) ∧ tMk1 C sp (E σ) t σ H Q) := by
  refine ⟨fun pins s σ H Q I want => ?_⟩
  obtain ⟨at_, want⟩ := want
  refine wpAny_Call_Name_kw (thn ((pe_var (pos := p) (i := i) hN hv hd hcd).run pins s σ H (fun v H1 => v = .ref C ∧ H1 = H) I ⟨.ref C, at_, rfl, rfl⟩) fun u s1 z => ?_)
  obtain ⟨v, H1, I1, r1, ev, eH⟩ := z
  subst ev eH
  obtain rfl : u = Value.ref C := r1
  exact PySem.W.callWith_K (h₀ := X.base) I1.ok.mod.kin M.kp (thn (ha.run pos pins s1 σ _ _ I1 want) fun ws s2 y => by
    obtain ⟨zs, H2, J, rz, w2⟩ := y
    exact ⟨J.kIn, run_mk1 M Fn room bd (pass σ) J rz w2⟩) he hpl
theorem ref_mk1 {t : TA} (ha : RefA X t fr) {W : WX} {E : Ent} {ρ : S} {G : Hp} {σ : L2.St} {H : Hp} {Q : VK} {k : KE} {x : KX} (tk : TakesT X W E) (R : Rel X.K E ρ G σ H) (lx : LkX X.K E x W) (lk : LkE X.K E G σ k Q) (hf : fr ρ (fun as ρ1 => argK ρ1 as fun bs w => w = false ∧ (bs.filter AV.isOwn).length = 0 ∧ bs.length = n ∧ F bs (fun d => k (.obj C [(fl, d)]) ρ1) fun c => x c ρ1) x) : tMk1 C (spI X.K C fl n F) (WE W σ) t σ H Q := by
  refine ha W E ρ G σ H _ _ x tk R lx (fun as ρ1 G1 vs H1 e1 R1 q1 h1 => fun q dx nq ndx ne => ?_) hf
  obtain ⟨bs, w, p1, p2, p3, p4, hw, no, hl, h1⟩ := argK_of R1 (Lent ρ1 σ as) (fun q z => z) (fun q z => by obtain ⟨i, b, d, _, z2, z3⟩ := z; exact ⟨i, b, d, z2, z3⟩) (lend_ex R1) q1 h1
  have same : lend (Lent ρ1 σ as) G1 H1 = G1 := funext fun q => lend_out (p4 hw q)
  rw [same] at p1
  have flat : ∀ a ∈ bs, a.isOwn = false := fun a hm => by
    cases o : a.isOwn with
    | false => rfl
    | true =>
      have := List.length_pos_of_mem (List.mem_filter.mpr ⟨hm, o⟩)
      omega
  have g0 := R1.g0 nq
  have s1 : Ex H1 (upd (upd H1 dx (.own q)) q (.ins C dx [])) := fun b o h => by
    rw [upd_ne (ne_of_none h nq), upd_ne (ne_of_none h ndx)]
    exact h
  have hold : Paired (fun a v => Hold X.K G1 (upd (upd H1 dx (.own q)) q (.ins C dx [])) a v) bs vs := by
    have gen : ∀ {bs : List AV} {vs : List V}, (∀ a ∈ bs, a.isOwn = false) → Paired (fun a v => Hold X.K G1 H1 a v) bs vs → Paired (fun a v => Hold X.K G1 (upd (upd H1 dx (.own q)) q (.ins C dx [])) a v) bs vs := by
      intro bs vs fl pr
      induction pr with
      | nil => exact .nil
      | cons h t ih => exact .cons (h.still (Ex.refl _) (fl _ List.mem_cons_self)) (ih fun a ha => fl a (List.mem_cons_of_mem _ ha))
    exact gen flat p1
  have nops : potPs bs vs = [] := by
    cases z : potPs bs vs with
    | nil => rfl
    | cons y ys =>
      obtain ⟨j, b, h1, _⟩ := mem_potPs.mp (show y ∈ potPs bs vs by rw [z]; exact List.mem_cons_self)
      have := flat _ (List.mem_of_getElem? h1)
      cases this
  -- what both ends give
  have ends : ∀ {G' H' : Hp}, Ex G' H' → Ex G1 G' → (∀ b o, G' b = some o → G1 b = some o ∨ upd (upd H1 dx (.own q)) q (.ins C dx []) b = none) → Kept (TN X.K) (q :: potPs bs vs) (upd (upd H1 dx (.own q)) q (.ins C dx [])) H' → (∀ b qs, G' b ≠ some (.tbl qs)) → Rel X.K E ρ1 G' σ H' := by
    intro G' H' sub grow new but gn
    rw [nops] at but
    have but' : Kept (TN X.K) [] H1 H' := (but.under s1).fresh nq
    have gnew : ∀ b o, G' b = some o → G1 b = some o ∨ H1 b = none := fun b o h => by
      rcases new b o h with y | y
      · exact .inl y
      · refine .inr ?_
        cases z : H1 b with
        | none => rfl
        | some o => rw [s1 b o z] at y; cases y
    have gone : ∀ {b : Addr}, G1 b = none → H1 b ≠ none → G' b = none := fun {b} g h => by
      cases z : G' b with
      | none => rfl
      | some o =>
        rcases gnew b o z with y | y
        · rw [g] at y; cases y
        · exact absurd y h
    have at_ : ∀ {b : Addr}, H1 b ≠ none → Soft H1 b → H' b = H1 b := fun {b} h m => but'.keep nofun h m
    refine ⟨sub, R1.len, fun i a h => ?_, R1.apart, R1.mine, R1.par, R1.grow.trans grow, fun b o h => ?_, R1.but.then but' nofun, fun p hp => pot_at (R1.live p hp) (at_ (pot_some (R1.live p hp)) (pot_mut (R1.live p hp))), R1.h0p, fun b o h => ?_, R1.fno, gn⟩
    · obtain ⟨v, ev, hh⟩ := R1.slot i a h
      refine ⟨v, ev, ?_⟩
      cases ho : a.isOwn with
      | false => exact hh.still grow ho
      | true =>
        obtain ⟨p, rfl, gp, st⟩ := hh.own ho
        exact Hold.of_own ho (gone gp st.some) (st.mono grow (at_ st.some st.mut))
    · rcases gnew b o h with y | y
      · exact R1.new b o y
      · exact .inr (R1.h0 y)
    · obtain ⟨h1, h2, h3⟩ := R1.frm b o h
      exact ⟨but'.but b o nofun h1 (fun qs e => R1.fno b qs (by rw [h, e])), gone h2 (by rw [h1]; exact nofun), h3⟩
  refine ⟨q, dx, vs, G1, bs, _, _, rfl, hl, R1.sub.trans s1, g0, upd_same, ⟨hold, (fun a ha o => by rw [flat a ha] at o; cases o), (fun i j a b v n h1 h2 o1 _ _ _ => by rw [flat a (List.mem_of_getElem? h1)] at o1; cases o1), R1.gno⟩, h1, fun d v G' H' sub grow new but gn _ gp hp rv hk => ⟨rfl, ?_⟩, fun c G' dd H' sub grow new but gn _ xr hx => lx c ρ1 G' σ dd H' (ends sub grow new but gn) xr hx⟩
  obtain ⟨R3, e3⟩ := (ends sub grow new but gn).freeze hp (R1.loose nq) gp ⟨R1.h0 nq, R1.f0 nq⟩
  exact lk (.obj C [(fl, d)]) ρ1 _ _ H' ((e1.trans grow).trans e3) R3 (.inr (.inl ⟨rfl, q, dx, _, rfl, upd_same, .cons ⟨rfl, rv.mono e3⟩ .nil⟩)) hk
def fMkV (i : Nat) (C : Addr) (fl : Str) (n : Nat) (F : FJ) (fr : FA) : FE := fun ρ k x => ρ[i]? = some (some (.raw (.ref C))) ∧ fr ρ (fun as ρ1 => argK ρ1 as fun bs w => w = false ∧ (bs.filter AV.isOwn).length = 0 ∧ bs.length = n ∧ F bs (fun d => k (.obj C [(fl, d)]) ρ1) fun c => x c ρ1) x
theorem raw_at {K : PySem.W.Frag} {E : Ent} {ρ : S} {G H : Hp} {σ : L2.St} {v : V} (R : Rel K E ρ G σ H) (h : ρ[i]? = some (some (.raw v))) : σ[i]? = some (some v) := by
  obtain ⟨u, e, hh⟩ := R.slot i _ h
  have hh : u = v := hh
  rw [e, hh]
end
section
variable {X : Cx} {P : Program} {w : World} {K : PySem.W.Frag} {mg : Str → Option Value} {base : Heap} {C : Addr} {lv k : Nat} {Fi : FJ} {Fl Ff : FD} {x : Str} {e : Expr} {fr : FA} {p pos : Pos}
theorem xe_mkV (i : Nat) (d : SchF P w K mg base C lv Fi Fl Ff) (j : In X P w K mg base) (hr : Room k X.A) (hk : lv + 1 ≤ k) (hN : X.N[i]? = some x) (hv : Vis X.env.scope x) (ha : TrA X [e] fr) (hd : (x == ("__debug__" : Str)) = false := by decide) (hcd : (x == ("__classdict__" : Str)) = false := by decide)
    (he : starEach [e] X.env = (false, eval e X.env) :: starEach [] X.env := by rfl) : TrE X (.Call (.Name x p) [e] [] pos) (fMkV i C "rows" 1 Fi fr) := fun W E ρ G σ H Q k x tk R lx lk hf pins s I => by
  obtain ⟨rfl, rfl, rfl, rfl, rfl⟩ := j
  obtain ⟨f, fd, m, ok, b⟩ := d.init
  exact (pe_mkV (E := WE W) m ok (hr.mono hk) b (fun σ => passT tk.1 σ) hN hv pa_w hd hcd he rfl).run pins s σ H Q I ⟨raw_at R hf.1, ref_mk1 ha tk R lx lk hf.2⟩
end
def sThru (fb : FS) : FS := fun ρ N _ => fb ρ N noX
section
variable {X : Cx} {CX : CXT} {k : Nat} {C p g : Addr} {mc : Value} {sp : Sp} {E : L2.St → XK} {o e : Expr} {tl : List Expr} {m : Str} {pos apos : Pos} {ta : TE} {t : TA} {pl : Sem Bool}
theorem pe_cmS (he : PE X o ta) (r : ClX.CRead X.K C mc) (c : ClX.CMet X.K C mc m p g) (F : FnR X.prog X.w X.K X.mg X.base CX k g sp) (hr : Room k X.A) (pass : ∀ σ, PassesAt CX X σ (E σ)) (ha : PA X (e :: tl) t)
    (hst : starEach (e :: tl) X.env = (false, eval e X.env) :: starEach tl X.env := by rfl) (hpl : (backTo pos (starEach tl X.env)).any (·.1) = false := by rfl)
    (ht : eval (.Call (.Attribute o m apos) (e :: tl) [] pos) X.env = (do
      let ov ← eval o X.env
      standAt apos.atName
      let (ff, first) ← holding [ov] (getMethod ov m pl)
      callWith pos ff first (backTo pos (starEach (e :: tl) X.env)) (backToKw pos (keywordEach [] X.env))) := by rfl) :
    PE X (.Call (.Attribute o m apos) (e :: tl) [] pos) (fun σ H Q => ta σ H fun x H1 => x = .ref C ∧ t σ H1 fun vs H2 => sp (.ref C :: vs) H2 Q (E σ)) := by
  refine ⟨fun pins s σ H Q I h => PySem.W.methodCall_KW (pl := pl) (thn (he.run pins s σ H _ I h) fun u s1 y => ?_) ht⟩
  obtain ⟨x, H1, I1, rx, ex, q⟩ := y
  subst ex
  have eu : u = Value.ref C := rx
  subst eu
  refine ClX.getmethcm_ok I1 r c fun s2 I2 => ClX.callwith_cm I2 (ClX.base_none I1 (Nat.le_refl _)) c.fi (thn (ha.run pos _ s2 σ H1 _ I2 q) fun us s3 y => ?_) hst hpl
  obtain ⟨vs, H2, I3, rv, want⟩ := y
  have body : wpAny (model X.prog X.w) X.A (call (.ref s1.heap.objs.size) us) (EP X ((s1.heap.objs.size, PySem.W.methodObj (.ref g) (.ref C)) :: pins) σ Q) X.xe s3 := by
    refine wpAny_call (PySem.W.method_call (ClX.pin_at I3) (codeAny_mono (F X.A X.stack s3 H2 (.ref C :: us) (.ref C :: vs) Q (E σ) hr I3.env0 (.cons rfl rv) want) fun res s4 post => ?_))
    match res, post with
    | .error er, post => exact pass σ _ H2 s3 er s4 I3 post
    | .ok (.ret _), post => exact I3.after post
    | .ok .next, post => exact post.elim
    | .ok .brk, post => exact post.elim
    | .ok .cont, post => exact post.elim
  exact ⟨⟨ClX.pin_at I3, I3.kIn⟩, thn body fun _ _ z => ClX.unpinE z⟩
end
structure ClsM (P : Program) (w : World) (K : PySem.W.Frag) (mg : Str → Option Value) (base : Heap) (C : Addr) (cn m a b : Str) (lv : Nat) (F : FD) : Prop where
  mgC : mg cn = some (.ref C)
  ex : ∃ (mc : Value) (p g : Addr) (fd : FuncData), ClX.CRead K C mc ∧ ClX.CMet K C mc m p g ∧ FnOk P w K mg base (CXL P w mg) lv g fd [a, b] (spT K 2 F) ∧ Binds K fd [a, b] []
def fPre (a : AV) (fr : FA) : FA := fun ρ k x => fr ρ (fun as ρ1 => k (a :: as) ρ1) x
/-- C.m(e) -/
abbrev fCM (C : Addr) (F : FD) (fr : FA) : FE := fCall 2 F (fPre (.raw (.ref C)) fr)
section
variable {X : Cx} {P : Program} {w : World} {K : PySem.W.Frag} {mg : Str → Option Value} {base : Heap} {C : Addr} {cn m n1 n2 : Str} {lv k : Nat} {F : FD} {e : Expr} {fr : FA} {p pos apos : Pos} {pl : Sem Bool}
theorem xe_cm (d : ClsM P w K mg base C cn m n1 n2 lv F) (j : In X P w K mg base) (hr : Room k X.A) (hk : lv ≤ k) (hg : Gl X cn) (ha : TrA X [e] fr) (hdb : (cn == ("__debug__" : Str)) = false := by decide)
    (hst : starEach [e] X.env = (false, eval e X.env) :: starEach [] X.env := by rfl)
    (ht : eval (.Call (.Attribute (.Name cn p) m apos) [e] [] pos) X.env = (do
      let ov ← eval (.Name cn p) X.env
      standAt apos.atName
      let (ff, first) ← holding [ov] (getMethod ov m pl)
      callWith pos ff first (backTo pos (starEach [e] X.env)) (backToKw pos (keywordEach [] X.env))) := by rfl) :
    TrE X (.Call (.Attribute (.Name cn p) m apos) [e] [] pos) (fCM C F fr) := fun W E ρ G σ H Q k x tk R lx lk hf pins s I => by
  obtain ⟨rfl, rfl, rfl, rfl, rfl⟩ := j
  obtain ⟨mc, q, g, fd, r, c, ok, b⟩ := d.ex
  refine (pe_cmS (E := WE W) (pe_glob (v := .ref C) hg d.mgC (show RelV (.ref C) (.ref C) from rfl) hdb) r c ((ok.raw b .nil).imp (fun vs H Q E h => by rw [List.append_nil]; exact h)) (hr.mono hk) (fun σ => passT tk.1 σ) pa_w hst rfl ht).run pins s σ H Q I ⟨rfl, ?_⟩
  exact ha W E ρ G σ H _ _ x tk R lx (fun as ρ1 G1 vs H1 e1 R1 q1 h1 => ref_call R1 lx (lk.up e1) (.cons ⟨rfl, .inr (.inl ⟨rfl, (show Hold X.K G1 H1 (.raw (.ref C)) (.ref C) from rfl)⟩)⟩ q1) h1) hf
end
section
variable {X : Cx} {CX : CXT} {n : Nat} {C f : Addr} {fd : FuncData} {ps : List Str} {sp : Sp} {E : XK}
def rEqI (C : Addr) (sp : Sp) (E : XK) : R2 := fun x y H Q => ∃ a b dx dy fs gs, x = .ref a ∧ y = .ref b ∧ H a = some (.ins C dx fs) ∧ H b = some (.ins C dy gs) ∧ sp [.ref a, .ref b] H (fun v H' => (∃ t, v = .bl t) ∧ Q v H') E
theorem op_eqI (F : FnOk X.prog X.w X.K X.mg X.base CX n f fd ps sp) (hr : Room n X.A) (hs : PySem.W.findIn X.K (.ref C) "__eq__" = some (some (.ref f))) (hf : PySem.W.isFn X.K (.ref f) = true) (hb : Binds X.K fd ps []) (pass : Passes CX X E) : OpR X (compareOp .Eq) (rEqI C sp E) := by
  intro pins s σ H x y v u Q I rx ry want
  obtain ⟨a, b, dx, dy, fs, gs, rfl, rfl, ha, hy, want⟩ := want
  have ev : v = Value.ref a := rx
  have eu : u = Value.ref b := ry
  subst ev eu
  obtain ⟨_, J1, _⟩ := ins_get I.hok ha
  obtain ⟨_, J2, _⟩ := ins_get I.hok hy
  obtain ⟨_, L1, _⟩ := J1.look
  obtain ⟨_, L2, _⟩ := J2.look
  obtain ⟨_, fr⟩ := I.fr
  refine PySem.W.cmp_K (op := .Eq) (tb := .ref C) hr.units0 fr I.ok.mod.kin L1 L2.type (by simp [PySem.W.notFirst]) hs hf ?_
  have two : Vals [V.ref a, V.ref b] [Value.ref a, Value.ref b] := .cons rfl (.cons rfl .nil)
  have bb := hb s [Value.ref a, Value.ref b] I.kIn (by rw [List.append_nil, ← F.len _ _ _ _ want]; rfl)
  rw [List.append_nil] at bb
  refine wpAny_call (codeAny_mono (F.run X.A X.stack s H ⟨[.ref a, .ref b], []⟩ [.ref a, .ref b] [.ref a, .ref b] _ E hr I.env0 bb two want) fun res s' post => ?_)
  match res, post with
  | .error er, post => exact pass pins σ H s er s' I post
  | .ok (.ret w), post =>
    obtain ⟨z, H', I', rz, ⟨t, ez⟩, q⟩ := I.after post
    subst ez
    cases (show w = Value.bool t from rz)
    exact ⟨.bl t, H', I', rfl, q⟩
  | .ok .next, post => exact post.elim
  | .ok .brk, post => exact post.elim
  | .ok .cont, post => exact post.elim
end
def isO (C : Addr) : AV → Prop
  | .obj C' _ => C' = C
  | _ => False
/-- a == b of two instances, by the promise of the class -/
def fEqO (C : Addr) (F : FD) (fa fb : FE) : FE := fun ρ k x => fa ρ (fun a ρ1 => isO C a ∧ fb ρ1 (fun b ρ2 => isO C b ∧ argK ρ2 [a, b] fun bs w => (bs.filter AV.isOwn).length ≤ 1 ∧ bs.length = 2 ∧ F bs (fun r => (w = false ∨ flAV r = true) ∧ ∃ t, r = .dat (.bool t) ∧ k r ρ2) fun c => (w = false ∨ flX c = true) ∧ False) x) x
structure EqM (P : Program) (w : World) (K : PySem.W.Frag) (mg : Str → Option Value) (base : Heap) (C : Addr) (lv : Nat) (F : FD) : Prop where
  ex : ∃ f fd, PySem.W.findIn K (.ref C) "__eq__" = some (some (.ref f)) ∧ PySem.W.isFn K (.ref f) = true ∧ FnOk P w K mg base (CXL P w mg) lv f fd ["self", "other"] (spT K 2 F) ∧ Binds K fd ["self", "other"] []
section
variable {X : Cx} {P : Program} {w : World} {K : PySem.W.Frag} {mg : Str → Option Value} {base : Heap} {C : Addr} {lv k : Nat} {F : FD} {a b : Expr} {fa fb : FE} {pos : Pos}
theorem obj_res {K : PySem.W.Frag} {E : Ent} {ρ : S} {G H : Hp} {σ : L2.St} {a : AV} {v : V} (q : Res K E ρ G σ H a v) (h : isO C a) : a.isOwn = false ∧ ∃ p dx vs, v = .ref p ∧ G p = some (.ins C dx vs) := by
  cases a <;> first | exact h.elim | skip
  obtain rfl := (show _ = C from h)
  rcases q with ⟨i, z, _⟩ | ⟨_, hh⟩ | ⟨z, _⟩
  · cases z
  · obtain ⟨p, dx, vs, e, g, _⟩ := hh
    exact ⟨rfl, p, dx, vs, e, g⟩
  · cases z
theorem ref_eqO {f : Addr} {fd : FuncData} {E0 : XK} (he : E0 = fun _ _ _ => False) {ta tb : TE} (ha : RefE X ta fa) (hb : RefE X tb fb) : RefE X (tOp (rEqI C (spT X.K 2 F) E0) ta tb) (fEqO C F fa fb) := fun W E ρ G σ H Q k x tk R lx lk hf => by
  subst he
  refine ha W E ρ G σ H _ _ x tk R lx (fun a ρ1 G1 v H1 e1 R1 q1 h1 => ?_) hf
  obtain ⟨oa, h1⟩ := h1
  obtain ⟨na, p, dx, vs, rfl, g1⟩ := obj_res q1 oa
  refine hb W E ρ1 G1 σ H1 _ _ x tk R1 lx (fun b ρ2 G2 u H2 e2 R2 q2 h2 => ?_) h1
  obtain ⟨ob, h2⟩ := h2
  obtain ⟨nb, p2, dy, us, rfl, g2⟩ := obj_res q2 ob
  refine ⟨p, p2, dx, dy, vs, us, rfl, rfl, R2.sub _ _ (e2 _ _ g1), R2.sub _ _ g2, ?_⟩
  exact ref_call (W := fun _ _ _ _ => False) (xx := noX) (kk := fun r ρ' => ∃ t, r = .dat (.bool t) ∧ k r ρ') R2 lkx0 (fun r ρ' G' v H' e R' q z => by
    obtain ⟨t, rfl, hk⟩ := z
    refine ⟨⟨t, ?_⟩, lk _ ρ' G' v H' ((e1.trans e2).trans e) R' q hk⟩
    rcases q with ⟨i, z, _⟩ | ⟨_, hh⟩ | ⟨z, _⟩
    · cases z
    · cases (show Rp X.K G' v (.bool t) from hh)
      rfl
    · cases z) (.cons ⟨na, Res.stay na q1 e2⟩ (.cons ⟨nb, q2⟩ .nil)) h2
end
structure InsC (K : PySem.W.Frag) (mg : Str → Option Value) (c : Str) (C : Addr) : Prop where
  cl : Cls K C
  mgC : mg c = some (.ref C)
  kl : (PySem.W.findIn K (.ref C) "__class__" : Option (Option Value)) = some (some (.builtin "object.__class__"))
  kg : (PySem.W.specialIn K (.builtin "object.__class__") "__get__" : Option (Option Value)) = some (some (.builtin "getset_descriptor.__get__"))
  kt : (PySem.W.takesIn K (.builtin "object.__class__") : Option Bool) = some true
  ko : (PySem.W.mroIn K C (.type "object") : Option Bool) = some true
  one : PySem.W.kitOne K (.ref C) (.ref C) = some true
def fIsO (C : Addr) (fa : FE) : FE := fun ρ k x => fa ρ (fun a ρ1 => isO C a ∧ k (.dat (.bool true)) ρ1) x
section
variable {X : Cx} {C : Addr} {c : Str} {e : Expr} {fa : FE} {p p2 pos : Pos}
theorem xe_isO (d : InsC X.K X.mg c C) (hg : Gl X "isinstance") (hm : X.mg "isinstance" = none) (hc : Gl X c) (he : TrE X e fa) (hdb : (c == ("__debug__" : Str)) = false := by decide)
    (hs : starEach [e, .Name c p2] X.env = (false, eval e X.env) :: starEach [.Name c p2] X.env := by rfl) (hs2 : starEach [.Name c p2] X.env = (false, eval (.Name c p2) X.env) :: starEach [] X.env := by rfl) (hpl : (backTo pos (starEach [.Name c p2] X.env)).any (·.1) = false := by rfl) :
    TrE X (.Call (.Name "isinstance" p) [e, .Name c p2] [] pos) (fIsO C fa) :=
  .of (pe_callB call_isi hg hm (by decide +kernel) (pa_cons pe_w (pa_cons (pe_glob (v := .ref C) hc d.mgC (show RelV (.ref C) (.ref C) from rfl) hdb) pa_nil hs2) hs) (he := hs) (hpl := hpl)) fun W E ρ G σ H Q k x tk R lx lk hf => by
  refine he W E ρ G σ H _ _ x tk R lx (fun a ρ1 G1 v H1 e1 R1 q1 h1 => ?_) hf
  obtain ⟨oa, h1⟩ := h1
  obtain ⟨na, p, dx, vs, rfl, g1⟩ := obj_res q1 oa
  exact ⟨.ref p, .ref C, .ref C, .ref C, true, rfl, .own C, .base (.ins (R1.sub _ _ g1) d.cl d.kl d.kg d.kt d.ko), d.one, lk (.dat (.bool true)) ρ1 G1 _ H1 e1 R1 (.dat (.bl true)) h1⟩
end
end Tr
set_option Elab.async false
set_option linter.all false
set_option maxRecDepth 100000
namespace KP
open PySem PySem.Spec PyProof.Rows L2 Evl Kc Kz Kx Tr Mg K23 K22 K27
/-- the digits of a number, the last one first -/
def revD (n : Nat) : List Nat := if h : n < 10 then [n] else n % 10 :: revD (n / 10)
def digs (n : Nat) : Str := ⟨((revD n).reverse.map (48 + ·)).toArray⟩
def numT (i : Int) : Str := if i < 0 then "-" ++ digs i.natAbs else digs i.natAbs
def valT : D → Str
  | .int i => numT i
  | .str z => z
  | _ => ""
def fldT (r : Mg.Row) : Str := r.1 ++ ":" ++ r.2
def rowsT (rows : List Mg.Row) : Str := Txt.join " " (rows.map fldT)
def verT (ds : List D) : Str := Txt.join "," (ds.map valT)
def F_text (C : Addr) : FD := fun as k _ => ∃ rows : List Mg.Row, as = [schO C rows] ∧ rows.length ≤ 20 ∧ (∀ r ∈ rows, word r.1 ∧ three r.2) ∧ k (.dat (.str (rowsT rows)))
def F_same (C : Addr) : FD := fun as k _ => ∃ rows : List Mg.Row, as = [schO C rows, schO C rows] ∧ (∀ r ∈ rows, word r.1 ∧ three r.2) ∧ k tt'
theorem F_text_one (C : Addr) : ∀ (fs : List (Str × D)) k, F_text C [.obj C fs] k (fun _ => False) → fs.lookup ("text" : Str) = none := fun fs k ⟨rows, e, _⟩ => by
  cases e
  rfl
end KP
set_option Elab.async false
set_option linter.all false
set_option maxRecDepth 100000
set_option maxHeartbeats 4000000
namespace KP
open PySem PySem.Spec PyProof.Rows L2 Evl Kc Kz Kx Tr Mg K23 K22 K27
def fb_stext (C : Addr) : FS := (sRet (fMeth gJoin (fC (.dat (.str " "))) (fCons (fLc [1, 2] (iSeq tK (fFld C "rows" (fVar 0))) (gT 2 (gsCons (gN 1) (gsCons (gN 2) gsNil))) fYes (fFs ":" (fVar 1) (fVar 2))) fNil)))
def fb_seq (C : Addr) : FS := (sRet (fAndV (fIsO C (fVar 1)) (f2 gEq (fFld C "rows" (fVar 0)) (fFld C "rows" (fVar 1)))))
def fb_sread (C : Addr) : FS := (sCons (sIf (fNot (fTest (f1 (fun d k => k (.val (.bool (isT "str" d)))) (fVar 1)))) (fun _ _ _ => False) sNil) (sCons (sSet 2 (fLc [3] (iSeq lK (fMeth gSplit (fVar 1) (fCons (fC (.dat (.str " "))) fNil))) (gN 3) fYes (fB (g1 gTuple) (fCons (fMeth gSplit (fVar 3) (fCons (fC (.dat (.str ":"))) fNil)) fNil)))) (sThru (sRet (fMkV 0 C "rows" 1 F_init (fCons (fFrz 2) fNil))))))
end KP
set_option Elab.async false
set_option linter.all false
set_option maxRecDepth 100000
namespace Tr
open PySem PySem.Spec PyProof.Rows L2 Evl Kc Kz Kx
section
variable {K : PySem.W.Frag} {E : Ent} {ρ : S} {G G' H H' : Hp} {σ : L2.St}
/-- more is made, nothing is changed -/
theorem Rel.ext (r : Rel K E ρ G σ H) (gn : ∀ b qs, G' b ≠ some (.tbl qs)) (s : Kept (TN K) [] H H') (g : Ex G G') (sub : Ex G' H') (new : ∀ b o, G' b = some o → G b = some o ∨ H b = none) : Rel K E ρ G' σ H' := by
  have off : ∀ {q : Addr} {o : HO}, H q = some o → G q = none → G' q = none := fun {q o} e n => by
    cases z : G' q with
    | none => rfl
    | some u =>
      rcases new q u z with y | y
      · rw [n] at y; cases y
      · rw [e] at y; cases y
  refine ⟨sub, r.len, fun i a h => ?_, r.apart, r.mine, r.par, r.grow.trans g, fun b o h => ?_, r.but.then s nofun, fun q hq => ?_, r.h0p, fun b o h => ?_, r.fno, gn⟩
  · obtain ⟨v, e, hh⟩ := r.slot i a h
    refine ⟨v, e, ?_⟩
    cases ho : a.isOwn with
    | false => exact hh.still g ho
    | true =>
      obtain ⟨q, rfl, gq, st⟩ := hh.own ho
      cases z : H q with
      | none => exact absurd z st.some
      | some o => exact Hold.of_own ho (off z gq) (st.mono g (s.keep nofun st.some st.mut))
  · rcases new b o h with y | y
    · exact r.new b o y
    · exact .inr (r.h0 y)
  · exact pot_at (r.live q hq) (s.keep nofun (pot_some (r.live q hq)) (pot_mut (r.live q hq)))
  · obtain ⟨h1, h2, h3⟩ := r.frm b o h
    exact ⟨s.but b o nofun h1 (fun qs e => r.fno b qs (by rw [h, e])), off h1 h2, h3⟩
end
theorem kD_inj {a b : Key} (h : kD a = kD b) : a = b := by
  cases a <;> cases b <;> cases h <;> rfl
theorem rpk_keys {K : PySem.W.Frag} {G : Hp} : ∀ {kvs : List (Key × V)} {es : List (D × D)}, Rpk K G kvs es → es.map (·.1) = kvs.map fun p => kD p.1
  | _, _, .nil => rfl
  | _, _, .cons _ t => by rw [List.map_cons, List.map_cons, rpk_keys t]
end Tr
set_option Elab.async false
set_option linter.all false
set_option maxRecDepth 100000
namespace Tr
open PySem PySem.Spec PyProof.Rows L2 Evl Kc Kz Kx
/-- what kept takes apart is not too long -/
def keptOk : Nat → D → Prop
  | 0, _ => True
  | n + 1, .list ds => ds.length ≤ 1000 ∧ ∀ d ∈ ds, keptOk n d
  | n + 1, .tuple ds => ds.length ≤ 1000 ∧ ∀ d ∈ ds, keptOk n d
  | _ + 1, .dict es => (es.all fun e => flatD e.2) = true ∧ (es.map (·.1)).Nodup ∧ es.length ≤ 1000
  | _ + 1, _ => True
end Tr
set_option Elab.async false
set_option linter.all false
set_option maxRecDepth 100000
namespace Tr
open PySem PySem.Spec PyProof.Rows L2 Evl Kc Kz Kx
end Tr
set_option Elab.async false
set_option linter.all false
set_option maxRecDepth 100000
namespace Tr
open PySem PySem.Spec PyProof.Rows L2 Evl Kc Kz Kx
section
open AutoSeq1 (wpAny_loadPart')
open MeetsSeq MeetsSeq2 MeetsSeq3 SeqRoads2 SeqAt
variable {P : Program} {w : World}
/-- the list at a, of these items -/
abbrev lstO (us : Array Value) (n : Nat) (d : Option Addr) (z : Array (Option Value)) : Obj := { cls := .type "list", dict := d, data := .seq us n, slots := z }
/-- != of two lists, from place i on, all items equal -/
theorem ne_same {a b : Addr} {us ws : Array Value} {n m : Nat} {d d' : Option Addr} {z z' : Array (Option Value)} (sz : us.size = ws.size) : ∀ left i : Nat, us.size - i = left → MeetsIn P w (Builtin.«list.__eq__.loop» ⟨[.ref a, .ref b, rawInt i, rawInt 3], []⟩)
      (fun A R s => s.heap.get? a = some (lstO us n d z) ∧ s.heap.get? b = some (lstO ws m d' z') ∧ (∀ j (p : j < us.size) (q : j < ws.size), EqP P w A.in1 s us[j] ws[j] true) ∧ R (.ok (.ret (.bool false))) s) := by
  intro left
  induction left with
  | zero =>
    intro i e A R ⟨h0, g0, r0, t0, o0⟩ ⟨ha, hb, _, fin⟩
    wp_walk using wpAny_loadPart' ha, wpAny_loadPart' hb
    have na : us[((i : Nat) : Int).toNat]? = none := by
      rw [Array.getElem?_eq_none_iff]
      show us.size ≤ i
      omega
    have nb : ws[((i : Nat) : Int).toNat]? = none := by
      rw [Array.getElem?_eq_none_iff]
      show ws.size ≤ i
      omega
    rw [na, nb]
    wp_walk using wpAny_loadPart' ha, wpAny_loadPart' hb
    show R (.ok (.ret (.bool (us.size != ws.size)))) _
    rw [show (us.size != ws.size) = false by rw [sz]; exact bne_self_eq_false _]
    exact fin
  | succ left ih =>
    intro i e A R ⟨h0, g0, r0, t0, o0⟩ ⟨ha, hb, eq, fin⟩
    wp_walk using wpAny_loadPart' ha, wpAny_loadPart' hb
    have ia : i < us.size := by omega
    have ib : i < ws.size := by omega
    have ga : us[((i : Nat) : Int).toNat]? = some us[i] := Array.getElem?_eq_getElem ia
    have gb : ws[((i : Nat) : Int).toNat]? = some ws[i] := Array.getElem?_eq_getElem ib
    rw [ga, gb]
    refine wpAny_bind (eq i ia ib _ _ ?_)
    wp_walk
    rw [show ((i : Int) + 1) = ((i + 1 : Nat) : Int) by omega]
    refine ⟨plainId_quiet plain_eq_loop _, codeAny_builtin entry_eq_loop ?_⟩
    rw [Around.under_plainId plain_eq_loop]
    exact ih (i + 1) (by omega) A R _ ⟨ha, hb, eq, fin⟩
theorem ne_list {a b : Addr} {us ws : Array Value} {n m : Nat} {d d' : Option Addr} {z z' : Array (Option Value)} (sz : us.size = ws.size) : MeetsIn P w (Builtin.«list.__ne__» ⟨[.ref a, .ref b], []⟩)
      (fun A R s => s.heap.get? a = some (lstO us n d z) ∧ s.heap.get? b = some (lstO ws m d' z') ∧ (∀ j (p : j < us.size) (q : j < ws.size), EqP P w A.in1 s us[j] ws[j] true) ∧ R (.ok (.ret (.bool false))) s) := by
  intro A R ⟨h0, g0, r0, t0, o0⟩ ⟨ha, hb, eq, fin⟩
  have sub := AutoSeq1.sub_list_list
  have no : ¬ (us.size != ws.size) = true := by rw [sz, bne_self_eq_false]; decide
  wp_walk using wpAny_loadPart' ha, wpAny_loadPart' hb
  refine ⟨plainId_quiet plain_eq_loop _, codeAny_builtin entry_eq_loop ?_⟩
  rw [Around.under_plainId plain_eq_loop]
  exact ne_same sz _ 0 rfl A R _ ⟨ha, hb, eq, fin⟩
theorem rc_ne {A : Around} {s : Shared} {a b : Addr} {us ws : Array Value} (ha : s.heap.IsList a us) (hb : s.heap.IsList b ws) (sz : us.size = ws.size) (hu : A.units < cLine) (eq : ∀ j (p : j < us.size) (q : j < ws.size), EqP P w A.in1 s us[j] ws[j] true)
    (E Q : Value → Shared → Prop) (fin : Q (.bool false) s) : wpAny (model P w) A (richCompare .NotEq (.ref a) (.ref b)) Q E s := by
  obtain ⟨⟨c1, d1, t1, z1⟩, e1, k1, n1, y1⟩ := id ha
  obtain ⟨⟨c2, d2, t2, z2⟩, e2, k2, n2, y2⟩ := id hb
  dsimp only at k1 y1 k2 y2
  subst k1 y1 k2 y2
  have Ta : s.TypeIs (.ref a) "list" := ⟨_, e1, rfl⟩
  have Tb : s.TypeIs (.ref b) "list" := ⟨_, e2, rfl⟩
  refine wpAny_richCompare_same_room (op := .NotEq) Ta Tb F.slot_list_ne (call_meetsIn F.slot_list_ne Ta F.entry_list_ne (F.args_list_ne_2 _ _) (ne_list (n := n1) (m := n2) (d := d1) (d' := d2) (z := z1) (z' := z2) sz) ?_) hu
  exact ⟨e1, e2, eq, (show Value.bool false ≠ Value.notImplemented ∧ Q (.bool false) s from ⟨(fun q => nomatch q), fin⟩)⟩
end
/-- a tree of at most so many levels, each key of a dict once -/
def eqOk : Nat → D → Prop
  | 0, _ => False
  | n + 1, .list ds => ∀ d ∈ ds, eqOk n d
  | n + 1, .tuple ds => ∀ d ∈ ds, eqOk n d
  | n + 1, .dict es => (es.map (·.1)).Nodup ∧ ∀ e ∈ es, eqOk n e.2
  | _ + 1, _ => True
/-- both are the same tree -/
def Both (K : PySem.W.Frag) (H : Hp) (n : Nat) (x y : V) : Prop := ∃ d, eqOk n d ∧ Rp K H x d ∧ Rp K H y d
theorem both_list {K : PySem.W.Frag} {H : Hp} {n : Nat} : ∀ {xs ys : List V} {ds : List D}, Rps K H xs ds → Rps K H ys ds → (∀ d ∈ ds, eqOk n d) → Paired (Both K H n) xs ys
  | _, _, _, .nil, .nil, _ => .nil
  | _, _, _, .cons a t, .cons b u, h => .cons ⟨_, h _ List.mem_cons_self, a, b⟩ (both_list t u fun d hd => h d (List.mem_cons_of_mem _ hd))
theorem both_vals {K : PySem.W.Frag} {H : Hp} {n : Nat} : ∀ {ks ls : List (Key × V)} {es : List (D × D)}, Rpk K H ks es → Rpk K H ls es → (es.map (·.1)).Nodup → (∀ e ∈ es, eqOk n e.2) → ∀ p ∈ ks, ∃ u, valV ls p.1 = some u ∧ Both K H n p.2 u
  | _, _, _, .nil, .nil, _, _, p, hp => by cases hp
  | _, _, _, .cons (k := k1) (ds := ds) a t, r2, nd, h, p, hp => by
    generalize hk : kD k1 = kk at r2 nd h
    cases r2 with
    | @cons k2 v2 _ vs2 _ b u =>
      have e12 : k1 = k2 := kD_inj hk
      subst e12
      simp only [List.map_cons, List.nodup_cons] at nd
      rcases List.mem_cons.mp hp with rfl | hp2
      · exact ⟨v2, valV_pos rfl, _, h _ List.mem_cons_self, a, b⟩
      · obtain ⟨u', e, q⟩ := both_vals t u nd.2 (fun e he => h e (List.mem_cons_of_mem _ he)) p hp2
        refine ⟨u', (valV_neg fun z => nd.1 ?_).trans e, q⟩
        rw [rpk_keys t]
        exact List.mem_map.mpr ⟨p, hp2, by rw [← z]⟩
section
variable {X : Cx} {H : Hp} {σ : L2.St} {pins : List (Addr × Obj)} {s : Shared}
theorem eq_tree (I : Inv X pins σ H s) : ∀ (n : Nat) (A : Around), A.units + n < cLine → ∀ (x y : V) (v u : Value), Both X.K H n x y → RelV x v → RelV y u → SeqAt.EqP X.prog X.w A s v u true
  | 0, _, _, _, _, _, _, ⟨_, no, _⟩, _, _ => no.elim
  | n + 1, A, hu, x, y, v, u, ⟨d, ok, hx, hy⟩, rx, ry => by
    have ih := eq_tree I n A.in1 (by show A.units + 1 + n < cLine; omega)
    have refs : ∀ a b, x = .ref a → y = .ref b → (a ≠ b → ∀ (E Q : Value → Shared → Prop), Q (.bool true) s → wpAny (model X.prog X.w) A (richCompare .Eq (.ref a) (.ref b)) Q E s) → SeqAt.EqP X.prog X.w A s v u true := fun a b e1 e2 h => by
      subst e1 e2
      have rx' : v = Value.ref a := rx
      subst rx'
      have ry' : u = Value.ref b := ry
      subst ry'
      by_cases z : a = b
      · rw [z]
        exact (SeqAt.EqAt.same _).eqP
      · exact SeqAt.eqP_refs z (h z)
    cases hx with
    | non => cases hy; exact (eqAt_same rx ry rfl).eqP
    | bl b => cases hy; exact (eqAt_same rx ry rfl).eqP
    | int i => cases hy; exact (eqAt_same rx ry rfl).eqP
    | str z => cases hy; exact (eqAt_same rx ry rfl).eqP
    | @lst a xs ds ga ra =>
      cases hy with
      | @lst b ys _ gb rb =>
        refine refs a b rfl rfl fun _ E Q q => ?_
        obtain ⟨us, r1, p1, _⟩ := I.list (.inl (.inl ga))
        obtain ⟨ws, r2, p2, _⟩ := I.list (.inl (.inl gb))
        have pr := both_list ra rb ok
        refine SeqAt.rcP_lists (e := fun _ => true) p1.isList p2.isList (by rw [List.size_toArray, List.size_toArray, ← r1.length, ← r2.length]; exact Paired.length pr) (by omega) (fun j h1 h2 => ?_) E Q ?_
        · exact items_run ih pr r1 r2 j (by rw [List.size_toArray] at h1; exact h1) (by rw [List.size_toArray] at h2; exact h2)
        · rw [List.all_eq_true.mpr fun _ _ => rfl]
          exact q
    | @tup a xs ds ga ra =>
      cases hy with
      | @tup b ys _ gb rb =>
        refine refs a b rfl rfl fun _ E Q q => ?_
        obtain ⟨us, r1, p1, _⟩ := I.tuple ga
        obtain ⟨ws, r2, p2, _⟩ := I.tuple gb
        have pr := both_list ra rb ok
        have len : us.length = ws.length := by rw [← r1.length, ← r2.length]; exact Paired.length pr
        refine SeqAt.rcIn_tuples (e := fun _ => true) p1 p2 (by omega) (fun j h1 h2 => ?_) ?_
        · exact items_run ih pr r1 r2 j (by rw [List.size_toArray] at h1; exact h1) (by rw [List.size_toArray] at h2; exact h2)
        · rw [List.all_eq_true.mpr fun _ _ => rfl, List.size_toArray, List.size_toArray, len, beq_self_eq_true]
          exact q
    | @dct a ks es ga ra =>
      cases hy with
      | @dct b ls _ gb rb =>
        refine refs a b rfl rfl fun _ E Q q => ?_
        obtain ⟨_, ya, va, qa, da⟩ := (show ObjOk X.prog X.w H s.heap a (.dK ks) from I.hok a _ ga)
        obtain ⟨_, yb, vb, qb, db⟩ := (show ObjOk X.prog X.w H s.heap b (.dK ls) from I.hok b _ gb)
        refine PySem.W.rcP_dicts (knd := mixKind X.prog X.w) (r := true) ya yb da db (by omega) (fun _ => hits_run ih qb qa (both_vals ra rb ok.1 ok.2)) E Q ?_
        have len : va.length = vb.length := by rw [← qa.length, ← qb.length, ra.len, rb.len]
        rw [len, beq_self_eq_true]
        exact q
end
section
variable {X : Cx} {fa fb : FE} {a b : Expr} {pos : Pos}
theorem OpR.or {f : Value → Value → Sem Value} {r1 r2 : R2} (h1 : OpR X f r1) (h2 : OpR X f r2) : OpR X f (fun x y H Q => r1 x y H Q ∨ r2 x y H Q) := fun pins s σ H x y v u Q I rx ry h => h.elim (h1 pins s σ H x y v u Q I rx ry) (h2 pins s σ H x y v u Q I rx ry)
theorem Y2.or {K : PySem.W.Frag} {r1 r2 : R2} {g1 g2 : Op2} (h1 : Y2 K r1 g1) (h2 : Y2 K r2 g2) : Y2 K (fun x y H Q => r1 x y H Q ∨ r2 x y H Q) (fun d e k => g1 d e k ∨ g2 d e k) := fun G H x y d e s hx hy Q k o h => h.elim (fun z => .inl (h1 G H x y d e s hx hy Q k o z)) fun z => .inr (h2 G H x y d e s hx hy Q k o z)
/-- != of two lists that are the same tree -/
def rNeS (K : PySem.W.Frag) : R2 := fun x y H Q => ∃ p q xs ys, x = .ref p ∧ y = .ref q ∧ SqL K H p xs ∧ SqL K H q ys ∧ Paired (Both K H 50) xs ys ∧ Q (.bl false) H
theorem op_neS (hu : X.A.units + 64 < cLine) : OpR X (compareOp .NotEq) (rNeS X.K) := fun pins s σ H x y v u Q I rx ry h => by
  obtain ⟨p, q, xs, ys, rfl, rfl, hp, hq, pr, h⟩ := h
  have rx' : v = Value.ref p := rx
  subst rx'
  have ry' : u = Value.ref q := ry
  subst ry'
  obtain ⟨us, r1, p1, _⟩ := I.list hp
  obtain ⟨ws, r2, p2, _⟩ := I.list hq
  refine rc_ne p1.isList p2.isList (by rw [List.size_toArray, List.size_toArray, ← r1.length, ← r2.length]; exact Paired.length pr) (by omega) (fun j h1 h2 => ?_) _ _ ⟨.bl false, H, I, rfl, h⟩
  exact items_run (eq_tree I 50 X.A.in1 (by show X.A.units + 1 + 50 < cLine; omega)) pr r1 r2 j (by rw [List.size_toArray] at h1; exact h1) (by rw [List.size_toArray] at h2; exact h2)
def gNeS : Op2 := fun d e k => ∃ ds : List D, d = .list ds ∧ e = .list ds ∧ (∀ c ∈ ds, eqOk 50 c) ∧ k (.val (.bool false))
theorem y_neS {K : PySem.W.Frag} : Y2 K (rNeS K) gNeS := fun G H x y d e s hx hy Q k o h => by
  obtain ⟨ds, rfl, rfl, ok, hk⟩ := h
  obtain ⟨p, xs, rfl, hp, rp⟩ := hx.lsts s
  obtain ⟨q, ys, rfl, hq, rq⟩ := hy.lsts s
  exact ⟨p, q, xs, ys, rfl, rfl, .inl (.inl hp), .inl (.inl hq), both_list (rp.mono s) (rq.mono s) ok, o.val _ _ (.bl _) hk⟩
abbrev gNeX : Op2 := fun d e k => gNe d e k ∨ gNeS d e k
end
end Tr
set_option Elab.async false
set_option linter.all false
set_option maxRecDepth 100000
namespace KF
open PySem PySem.Spec PyProof.Rows L2 Evl Kc Kz Kx Tr Mg K23 K22 K27 K24 KA KB
abbrev exV (Dv : Addr) (d : D) : Exn := ⟨Dv, [("version", d)]⟩
end KF
set_option Elab.async false
set_option linter.all false
set_option maxRecDepth 100000
set_option maxHeartbeats 4000000
namespace KF
open PySem PySem.Spec PyProof.Rows L2 Evl Kc Kz Kx Tr Mg K23 K22 K27 K24 KA KB
end KF
set_option Elab.async false
set_option linter.all false
set_option maxRecDepth 100000
namespace KF
open PySem PySem.Spec PyProof.Rows L2 Evl Kc Kz Kx Tr Mg K23 K22 K27 K24 KA KB
end KF
set_option Elab.async false
set_option linter.all false
set_option maxRecDepth 100000
namespace KP
open PySem PySem.Spec PyProof.Rows L2 Evl Kc Kz Kx Tr Mg K23 K22 K27 TL
end KP
set_option Elab.async false
set_option linter.all false
set_option maxRecDepth 100000
namespace KP
open PySem PySem.Spec PyProof.Rows L2 Evl Kc Kz Kx Tr Mg K23 K22 K27 TL
theorem tl_app (a b : Str) : tl (a ++ b) = tl a ++ tl b := by
  show (a.cps ++ b.cps).toList = _
  rw [Array.toList_append]
end KP
set_option Elab.async false
set_option linter.all false
set_option maxRecDepth 100000
namespace KP
open PySem PySem.Spec PyProof.Rows L2 Evl Kc Kz Kx Tr Mg K23 K22 K27 TL
theorem sh_low {z : Str} (h : ∀ c ∈ tl z, c < 128) : SeqAt.shaped (.str z) = true := by
  show (PyData.canLay0 _ && _) = true
  have e : PyData.canLay0 (.str z) = true := by
    simp only [PyData.canLay0, PyData.strOk]
    rw [Array.all_eq_true']
    intro c hc
    have := h c (Array.mem_def.mp hc)
    simp
    omega
  rw [e]
  rfl
theorem word_top {z : Str} (w : word z) : ∃ c cs, tl z = c :: cs ∧ 97 ≤ c ∧ c < 128 ∧ ∀ c ∈ tl z, 97 ≤ c ∧ c < 128 := by
  obtain ⟨h1, _, h3⟩ := word_parts w
  have low : ∀ c ∈ abc.cps.toList, 97 ≤ c ∧ c < 128 := by decide +kernel
  have all : ∀ c ∈ tl z, 97 ≤ c ∧ c < 128 := fun c hc => low c (h3 c hc)
  cases e : tl z with
  | nil => rw [len_tl, e] at h1; exact absurd h1 (by decide)
  | cons c cs =>
    rw [e] at all
    have := all c List.mem_cons_self
    exact ⟨c, cs, rfl, this.1, this.2, all⟩
abbrev stI (z y : Str) : S := [some (.dat (.str z)), some (.dat (.str y)), none]
end KP
set_option Elab.async false
set_option linter.all false
set_option maxRecDepth 100000
namespace KP
open PySem PySem.Spec PyProof.Rows L2 Evl Kc Kz Kx Tr Mg K23 K22 K27 TL
abbrev stO (z : Str) (n : Nat) (c2 : Option AV) : S := [some (.dat (.str z)), some (.dat (.int (n : Int))), c2]
end KP
set_option Elab.async false
set_option linter.all false
set_option maxRecDepth 100000
namespace KP
open PySem PySem.Spec PyProof.Rows L2 Evl Kc Kz Kx Tr Mg K23 K22 K27 TL
theorem joinL_le (s : List Nat) (m : Nat) : ∀ l : List (List Nat), (∀ p ∈ l, p.length ≤ m) → (joinL s l).length ≤ l.length * (m + s.length)
  | [], _ => Nat.zero_le _
  | [p], h => by
    have := h p (List.mem_singleton_self p)
    show p.length ≤ 1 * _
    omega
  | p :: q :: r, h => by
    have ih := joinL_le s m (q :: r) fun z hz => h z (List.mem_cons_of_mem _ hz)
    have := h p List.mem_cons_self
    show (p ++ (s ++ joinL s (q :: r))).length ≤ ((q :: r).length + 1) * _
    rw [List.length_append, List.length_append, Nat.succ_mul]
    omega
theorem join_le {y : Str} {ys : List Str} {m : Nat} (h : ∀ z ∈ ys, z.length ≤ m) : (Txt.join y ys).length ≤ ys.length * (m + y.length) := by
  rw [len_tl, join_eq, tl_join, len_tl y]
  refine Nat.le_trans (joinL_le (tl y) m (ys.map tl) fun p hp => ?_) (by rw [List.length_map]; exact Nat.le_refl _)
  obtain ⟨z, hz, rfl⟩ := List.mem_map.mp hp
  rw [← len_tl]
  exact h z hz
theorem sum_le {ys : List Str} {m : Nat} (h : ∀ z ∈ ys, z.length ≤ m) : (ys.map (·.length)).sum ≤ ys.length * m := by
  induction ys with
  | nil => exact Nat.zero_le _
  | cons y ys ih =>
    have := ih fun z hz => h z (List.mem_cons_of_mem _ hz)
    have := h y List.mem_cons_self
    rw [List.length_cons, Nat.succ_mul, List.map_cons, List.sum_cons]
    omega
end KP
set_option Elab.async false
set_option linter.all false
set_option maxRecDepth 100000
namespace KP
open PySem PySem.Spec PyProof.Rows L2 Evl Kc Kz Kx Tr Mg K23 K22 K27 TL
theorem low_of {z : Str} (h : word z) : ∀ c ∈ tl z, 97 ≤ c ∧ c < 128 := by
  obtain ⟨_, _, _, _, _, low⟩ := word_top h
  exact low
theorem three_low {k : Str} (h : three k) : k.length ≤ 7 ∧ ∀ c ∈ tl k, 97 ≤ c ∧ c < 128 := by
  rcases h with rfl | rfl | rfl <;> exact ⟨by decide, by decide +kernel⟩
theorem fldT_ok {r : Mg.Row} (h : word r.1 ∧ three r.2) : (fldT r).length ≤ 16 ∧ 32 ∉ tl (fldT r) ∧ Txt.split (fldT r) ":" = [r.1, r.2] := by
  have w := low_of h.1
  obtain ⟨l2, t⟩ := three_low h.2
  have l1 := (word_parts h.1).2.1
  have et : tl (fldT r) = tl r.1 ++ (58 :: tl r.2) := by
    show tl (r.1 ++ ":" ++ r.2) = _
    rw [tl_app, tl_app, List.append_assoc]
    rfl
  refine ⟨?_, fun z => ?_, ?_⟩
  · show (r.1 ++ ":" ++ r.2).length ≤ 16
    rw [app_len, app_len]
    show r.1.length + 1 + r.2.length ≤ 16
    omega
  · rw [et] at z
    rcases List.mem_append.mp z with z | z
    · have := w _ z; omega
    · obtain z | z := List.mem_cons.mp z
      · omega
      · have := t _ z; omega
  · have e : fldT r = Txt.join ":" [r.1, r.2] := by
      refine ext_tl ?_
      rw [et, join_eq, tl_join]
      rfl
    rw [e]
    refine split_join (s := 58) (S := []) rfl (by decide +kernel) nofun fun p hp z => ?_
    simp only [List.mem_cons, List.not_mem_nil, or_false] at hp
    rcases hp with rfl | rfl
    · have := w _ z; omega
    · have := t _ z; omega
theorem imp_stext (C : Addr) : ∀ as k x, as.length = 1 → F_text C as k x → KP.fb_stext C (start0 3 as) (Ok k) fun c _ => x c := by
  rintro _ k x _ ⟨rows, rfl, hr, ht, hk⟩
  refine ⟨⟨_, rfl⟩, rfl, _, rfl, rfl, ?_⟩
  refine lcF_by (fun i acc ρ => ρ = start0 3 [schO C rows] ∧ acc = sts ((rows.take i).map fldT)) (fun i d acc ρ hd hI C' hC => ?_) (fun acc ρ hI => ?_) ⟨rfl, rfl⟩
  · obtain ⟨rfl, rfl⟩ := hI
    obtain ⟨r, hr1, rfl⟩ := row_get hd
    have tr := ht r (List.mem_of_getElem? hr1)
    have l1 := (word_parts tr.1).2.1
    have l2 := (three_low tr.2).1
    refine ⟨rfl, ?_⟩
    refine ⟨(show r.1.length + (":" : Str).length ≤ 500000 by show _ + 1 ≤ _; omega), (show r.2.length ≤ 500000 by omega), ?_, hC _ _ ⟨rfl, ?_⟩⟩
    · rw [List.length_map, List.length_map]
      exact small1000 (Nat.le_trans (List.length_take_le' _ _) (by omega))
    · rw [take_succ hr1, List.map_append, sts_app]
      rfl
  · obtain ⟨rfl, rfl⟩ := hI
    rw [List.length_map, List.take_length]
    refine strs_of ⟨?_, hk⟩
    have := sum_le (ys := rows.map fldT) (m := 16) fun z hz => by
      obtain ⟨r, h, rfl⟩ := List.mem_map.mp hz
      exact (fldT_ok (ht r h)).1
    rw [List.length_map] at this ⊢
    show _ + _ * 1 ≤ _
    omega
theorem sh_sch {ps : List Mg.Row} (w : ∀ p ∈ ps, word p.1 ∧ three p.2) : SeqAt.shaped (.tuple (ps.map rowD)) = true ∧ PyData.canLay0 (.tuple (ps.map rowD)) = true := by
  obtain ⟨a, b⟩ := lay_rows (ps := ps) fun p hp => ⟨(w p hp).1, by rcases (w p hp).2 with e | e | e <;> (rw [e]; decide +kernel)⟩
  have l : PyData.canLay0 (.tuple (ps.map rowD)) = true := by
    simp only [PyData.canLay0]
    exact a
  refine ⟨?_, l⟩
  show (PyData.canLay0 _ && decide (PyData.depth _ ≤ 64)) = true
  have d : PyData.depth (.tuple (ps.map rowD)) ≤ 64 := by
    simp only [PyData.depth]
    omega
  rw [l, decide_eq_true d]
  rfl
theorem imp_same (C : Addr) : ∀ as k x, as.length = 2 → F_same C as k x → KP.fb_seq C (start0 2 as) (Ok k) fun c _ => x c := by
  rintro _ k x _ ⟨rows, rfl, ht, hk⟩
  refine ⟨rfl, rfl, _, rfl, rfl, _, rfl, ?_⟩
  obtain ⟨a, b⟩ := sh_sch ht
  have e : eqD (.tuple (rows.map rowD)) (.tuple (rows.map rowD)) = true := SeqAt.eqv_refl _ b
  refine ⟨⟨a, a⟩, ?_⟩
  rw [e]
  exact hk
end KP
set_option Elab.async false
set_option linter.all false
set_option maxRecDepth 100000
set_option maxHeartbeats 2000000
namespace Kx
open PySem PySem.Spec PyProof.Rows L2 NdefX
section
variable {X : Cx} {CX : CXT} {k : Nat} {f : Addr} {fd : FuncData} {ps : List Str} {sp : Sp} {E : XK} {x : Str} {p pos : Pos} {e : Expr} {es : List Expr} {ta : TA} {ds : List Value} {dvs : List V}
/-- f(e, ..), what is lacking by default -/
theorem pe_callHD (Fn : L2H.FnH X.prog X.w X.K X.mg X.base CX k f fd ps sp) (room : L2H.RoomH k X.A) (hot : L2H.HotC X) (hg : Gl X x) (hm : X.mg x = some (.ref f)) (hk : PySem.W.keepIn X.K (.ref f) = true) (bd : Binds X.K fd ps ds) (hd : Vals dvs ds) (pass : Passes CX X E)
    (items : PA X (e :: es) ta) (hdb : (x == ("__debug__" : Str)) = false := by decide) (he : starEach (e :: es) X.env = (false, eval e X.env) :: starEach es X.env := by rfl) (hpl : (backTo pos (starEach es X.env)).any (·.1) = false := by rfl) :
    PE X (.Call (.Name x p) (e :: es) [] pos) (tCall sp dvs E ta) := by
  constructor
  intro pins s σ H Q I want
  obtain ⟨hp, h1, h2⟩ := hot
  refine wpAny_Call_Name_kw (ld_glob I hg hm (PySem.W.callWith_K (h₀ := X.base) I.ok.mod.kin hk (thn (items.run pos pins s σ H _ I want) fun us s1 ⟨vs, H1, J, rel, go⟩ => ⟨J.kIn, ?_⟩) he hpl) hdb)
  have all : Vals (vs ++ dvs) (us ++ ds) := rel.append hd
  have many : (us ++ ds).length = ps.length := all.length.symm.trans (Fn.len _ _ _ _ go)
  have pinned : L2H.PinOk X.stack H1 s1 hp := by
    obtain ⟨q1, q2, q3, q4, q5⟩ := J.pin hp (List.mem_append_left _ h2)
    refine ⟨q1, q2, fun z => ?_, q5⟩
    rcases List.mem_cons.mp (J.stkSub hp.1 z) with w | w
    · exact q3 w
    · exact q4 w
  have run := Fn.run X.A X.stack s1 H1 ⟨us, []⟩ (us ++ ds) (vs ++ dvs) Q E hp room h1 pinned J.env0 (bd s1 us J.kIn many) all go
  refine wpAny_call (codeAny_mono run fun r s2 got => ?_)
  match r, got with
  | .error er, got => exact pass pins σ H1 s1 er s2 J got
  | .ok (.ret u), got => exact J.after got
end
open NdefX in
/-- such a method, called while an error is handled -/
theorem fnH_of {B newId initId : String} {tail : List Value} {CX : CXT} {P : Program} {w : World} {K : PySem.W.Frag} {mg : Str → Option Value} {base : Heap} {k : Nat} {f cda cc D : Addr} {nm qual : Str} {prs : Arguments} {sc : Scope}
    {dV kV doc pm ct oc : Value} {an od : Option Addr} {osl : Array (Option Value)} {N pr : List Str} {sp : Sp} {e0 : Expr} {es : List Expr} {rest : List Stmt} {p0 p1 p2 pos pos' : Pos}
    (lk : K.lookup f = some ⟨oc, od, .func (PySem.W.ksFn nm qual prs (.Expr (.Call (.Attribute (.Call (.Name "super" p0) [] [] p1) "__init__" p2) (e0 :: es) [] pos) pos' :: rest) sc dV kV doc pm an (.ref cda) ct cc), osl⟩)
    (cin : PySem.W.codeIn K (.ref cda) qual = true) (S : NScope N ("self" :: pr) ["__class__"] sc) (W : SupW P K f cda cc D sc B initId) (T : OexB K D B newId initId tail) (hsup : mg "super" = none)
    (many : ∀ vs H Q E, sp vs H Q E → vs.length = pr.length + 1)
    (rows : ∀ (A : Around) (outer : List Env) (s : Shared) (H : Hp) (vs : List V) (Q : VK) (E : XK) (F : NF) (p : Addr × Obj), L2H.Hot1 A p →
      F = ⟨nm, qual, prs, .Expr (.Call (.Attribute (.Call (.Name "super" p0) [] [] p1) "__init__" p2) (e0 :: es) [] pos) pos' :: rest, sc, [("__class__", cc)], cda⟩ →
      L2H.RoomH k (A.deeper (envF F f s.heap.objs.size)) → sp vs H Q E →
      ∃ (a : Addr) (vr : List V) (ta : TA) (t : TS), vs = .ref a :: vr ∧ H a = some (exo a D none) ∧ PA (ncxH CX P w K mg base N F f A outer s H E p) (e0 :: es) ta ∧ PSs (ncxH CX P w K mg base N F f A outer s H E p) rest t ∧
        ta (startF N vs [none]) H fun ws H1 => ws.length ≤ 1000 ∧ H1 a = some (exo a D none) ∧ t { nx := fun _ H' => Q .non H', rt := Q } (startF N vs [none]) H1)
    (hc : ∀ env : Env, ∃ pl, eval (.Call (.Attribute (.Call (.Name "super" p0) [] [] p1) "__init__" p2) (e0 :: es) [] pos) env = (do
      let ov ← attributeBase (.Call (.Name "super" p0) [] [] p1) "__init__" env (eval (.Call (.Name "super" p0) [] [] p1) env)
      standAt p2.atName
      let (g, pre) ← holding [ov] (getMethod ov "__init__" pl)
      callWith pos g pre (backTo pos (starEach (e0 :: es) env)) []) := by intro env; exact ⟨_, rfl⟩)
    (he : ∀ env : Env, starEach (e0 :: es) env = (false, eval e0 env) :: starEach es env := by intro env; rfl) (hpl : ∀ env : Env, (backTo pos (starEach es env)).any (·.1) = false := by intro env; rfl)
    (hsw : ∀ env : Env, swapsWith (.Call (.Attribute (.Call (.Name "super" p0) [] [] p1) "__init__" p2) (e0 :: es) [] pos) none pos'.line env = pure false := by intro env; rfl) :
    L2H.FnH P w K mg base CX (k + 1) f (PySem.W.ksFn nm qual prs (.Expr (.Call (.Attribute (.Call (.Name "super" p0) [] [] p1) "__init__" p2) (e0 :: es) [] pos) pos' :: rest) sc dV kV doc pm an (.ref cda) ct cc) ("self" :: pr) sp := by
  refine ⟨many, fun A outer s H args us vs Q E p room hot pinned en bt rel want => ?_⟩
  have ln := many _ _ _ _ want
  have kin : K.In s.heap := en.mod.kin.keeps fun b o e => (en.bs b o e).1
  have nolim : s.heap.NoLimit := en.mod.nolimit.keeps fun b o e => (en.bs b o e).1
  obtain ⟨cl, cld, csl, hcell⟩ := W.cell
  have cells : CellsAt [(("__class__" : Str), cc)] [("__class__" : Str)] [none] s.heap H := by
    have here : H cc = none ∧ ∃ v, s.heap.IsCell cc v := ⟨(en.bs cc _ (en.mod.kin _ _ hcell)).2, _, ⟨_, kin _ _ hcell, rfl⟩⟩
    have only : ∀ (y : Str) (c : Addr), List.lookup y [(("__class__" : Str), cc)] = some c → y = "__class__" ∧ c = cc := fun y c z => by
      have m := PySem.mem_of_lookup z
      rw [List.mem_singleton] at m
      cases m
      exact ⟨rfl, rfl⟩
    refine ⟨rfl, fun y c z => ?_, fun x y c z1 z2 => (only x c z1).1.trans (only y c z2).1.symm, fun i y z => ?_⟩
    · obtain ⟨_, rfl⟩ := only y c z
      exact here
    · cases i with
      | zero =>
        cases z
        exact ⟨cc, rfl, fun v ev => by cases ev⟩
      | succ i => cases z
  obtain ⟨a, vr, ta, t, rfl, ea, pa, ps, q⟩ := rows A outer s H vs Q E _ p hot rfl (room.deeper _) want
  refine ks_codeAny_call_defAt room.depth (kin _ _ lk) rfl nolim (PySem.W.codeRec_of kin cin) rfl bt S.nocell (fun ⟨n, _⟩ hy => S.par n (List.of_mem_zip hy).1) (fun h1 hns kp => ?_) S.co S.gen S.kind
  have I : Inv (ncxH CX P w K mg base N ⟨nm, qual, prs, .Expr (.Call (.Attribute (.Call (.Name "super" p0) [] [] p1) "__init__" p2) (e0 :: es) [] pos) pos' :: rest, sc, [("__class__", cc)], cda⟩ f A outer s H E p) [] (startF N (.ref a :: vr) [none]) H
      { s with heap := h1, toks := s.toks + ((("self" : Str) :: pr).zip us).length } := inv_startNH S pinned en ln rel cells hns kp
  obtain ⟨pl, hpc⟩ := hc (envF ⟨nm, qual, prs, .Expr (.Call (.Attribute (.Call (.Name "super" p0) [] [] p1) "__init__" p2) (e0 :: es) [] pos) pos' :: rest, sc, [("__class__", cc)], cda⟩ f s.heap.objs.size)
  have hj : N[0]? = some ("self" : Str) := by
    have z : (N.take ((("self" : Str) :: pr).length + [("__class__" : Str)].length))[0]? = some ("self" : Str) := by rw [S.pre]; rfl
    rw [List.getElem?_take_of_lt (by simp)] at z
    exact z
  refine ks_wpAt_execs_cons (ks_wpAt_mono (at_super (j := 0) (a := a) (q := qual) W rfl hsup T I hj rfl ea pa q (Q := fun fl s' => fl = .next ∧ ∃ H1, t { nx := fun _ H' => Q .non H', rt := Q } (startF N (.ref a :: vr) [none]) H1 ∧ Inv _ [] (startF N (.ref a :: vr) [none]) H1 s')
    (fun ws H1 ⟨z1, z2, z3⟩ => ⟨z1, z2, fun s' J => ⟨rfl, H1, z3, J⟩⟩) hpc (he _) (hpl _) I.quiet (hsw _)) (fun fl s' hz => ?_) fun e s' hz => hz)
  obtain ⟨rfl, H1, q1, J⟩ := hz
  refine wpAt_of_wpAny (wpAny_mono (ps.run [] s' _ H1 _ J q1) (fun fl s2 hz => ?_) fun e s2 hz => hz)
  cases fl with
  | ret u =>
    obtain ⟨v, σ', H', J, rv, q⟩ := hz
    exact (⟨v, H', J.os, J.bare, J.base, J.hok, rv, q⟩ : CE outer P w H s Q u s2)
  | next =>
    obtain ⟨σ', H', J, q⟩ := hz
    exact (⟨V.non, H', J.os, J.bare, J.base, J.hok, rfl, q⟩ : CE outer P w H s Q Value.none s2)
  | brk =>
    obtain ⟨_, _, _, no⟩ := hz
    exact no.elim
  | cont =>
    obtain ⟨_, _, _, no⟩ := hz
    exact no.elim
section
variable {P : Program} {w : World} {K : PySem.W.Frag} {mg : Str → Option Value} {base : Heap} {CX : CXT} {qual txt fl x fl2 x2 : Str} {prs : Arguments} {sc : Scope} {f D fK : Addr} {fd fdK : FuncData} {spk : Sp} {k : Nat} {ds : List Value}
  {B newId initId : String} {tail : List Value} {jx : Nat} {a0 a1 a2 a3 a4 a5 b0 b1 b2 b3 b4 b5 c0 c1 c2 c3 c4 c5 : Pos}
theorem ok_err1H (F : InitW P K qual prs [rowSup txt jx a0 a1 a2 a3 a4 a5, rowFld fl x b0 b1 b2 b3 b4 b5] sc f D fd B initId) (S : NScope ["self", x, "__class__"] ["self", x] ["__class__"] sc) (T : OexB K D B newId initId tail) (hsup : mg "super" = none)
    (no : PySem.W.findIn K (.ref D) fl = some none) (FK : L2H.FnH P w K mg base CX0 k fK fdK ["value", "levels"] spk) (hm : mg "kept" = some (.ref fK)) (hk : PySem.W.keepIn K (.ref fK) = true) (hb : Binds K fdK ["value", "levels"] ds) (hd : Vals [.int 5] ds)
    (mono : ∀ (vs : List V) (H : Hp) (Q Q' : VK) (E : XK), (∀ v H', Q v H' → Q' v H') → spk vs H Q E → spk vs H Q' E)
    (hg : sc.names.lookup ("kept" : Str) = some .globalImplicit) (hx : (x == ("__debug__" : Str)) = false) (hx2 : (x == ("__classdict__" : Str)) = false) (hx3 : sc.names.lookup x = some .local) (hc : SupEv (.Constant (.str txt) jx a3) a0 a1 a2 a4) :
    L2H.FnH P w K mg base CX0 (k + 1) f fd ["self", x] (spErr1 D fl spk) := by
  obtain ⟨oc, od, an, osl, kV, doc, pm, ct, cda, cc, rfl, lk, cin, W⟩ := F.ex
  refine fnH_of lk cin S W T hsup (fun vs H Q E h => ?_) (fun A outer s H vs Q E G p hot eG hr h => ?_) hc
  · obtain ⟨a, v, rfl, _⟩ := h
    rfl
  · obtain ⟨a, v, rfl, ea, q⟩ := h
    subst eG
    refine ⟨a, [v], _, _, rfl, ea, pa_cons pe_str pa_nil, pss_one (ps_osb (pv 0 rfl (.inl W.ka)) (pe_callHD FK hr ⟨p, ⟨hot.1, hot.2⟩, List.mem_cons_self⟩ (by exact hg) hm hk hb hd pass0 (pa_cons (pv 1 rfl (.inl hx3) hx hx2) pa_nil))), ?_⟩
    refine ⟨Nat.le_of_lt (by decide : 1 < 1000), ea, v, rfl, ?_⟩
    refine mono _ _ _ _ _ (fun v' H' z => ?_) q
    obtain ⟨e1, nx⟩ := z
    exact ⟨.ref a, rfl, a, D, _, _, _, _, rfl, T, no, .inl ⟨e1, nx⟩⟩
/-- a def with defaults, called so -/
theorem okD_H {params : Arguments} {body : List Stmt} {scope : Scope} {dvs : List V} {kws : List (Str × V)} {N ps : List Str} {sp : Sp} (F : FunD K x qual params body scope dvs kws f fd) (S : FnScope N ps scope) (many : ∀ vs H Q E, sp vs H Q E → vs.length = ps.length)
    (go : ∀ (cdv : Value) (A : Around) (outer : List Env) (s : Shared) (H : Hp) (vs : List V) (Q : VK) (E : XK) (p : Addr × Obj), L2H.Hot1 A p → L2H.RoomH k (A.deeper (envOfC qual scope s.heap.objs.size f cdv)) → sp vs H Q E →
      ∃ t, PSs (L2H.cxH CX P w K mg base N qual scope f cdv A outer s H E p) body t ∧ t { nx := fun _ H' => Q .non H', rt := Q } (start N vs) H) : L2H.FnH P w K mg base CX (k + 1) f fd ps sp := by
  obtain ⟨oc, od, dV, kV, doc, pm, an, cdv, ct, osl, rfl, lk, cin, _, _⟩ := F.ex
  exact L2H.fn_ofH lk cin S many fun A outer s H vs Q E p hot room h => go cdv A outer s H vs Q E p hot room h
end
end Kx
set_option Elab.async false
set_option linter.all false
set_option maxRecDepth 100000
set_option maxHeartbeats 2000000
namespace Kx
open PySem PySem.Spec PyProof.Rows L2
section
variable {X : Cx} {o e : Expr} {es : List Expr} {to te : TE} {ta : TA} {f : Str} {p pq p1 p2 pos : Pos}
/-- C(e, ..) while an error is handled -/
theorem pmk_oexbH {CX : CXT} {x : Str} {C fI : Addr} {k : Nat} {fd : FuncData} {ps : List Str} {sp : Sp} {ds : List Value} {dvs : List V} {B newId initId : String} {tail : List Value} (T : OexB X.K C B newId initId tail) (iC : PySem.W.findIn X.K (.ref C) "__init__" = some (some (.ref fI))) (tI : PySem.W.typeIn X.K (.ref fI) = some (.type "function"))
    (Fn : L2H.FnH X.prog X.w X.K X.mg X.base CX k fI fd ps sp) (room : L2H.RoomH (k + 1) X.A) (hot : L2H.HotC X) (bd : Binds X.K fd ps ds) (hd : Vals dvs ds) (pass : Passes CX X (fun _ _ _ => False)) (hg : Gl X x) (hm : X.mg x = some (.ref C)) (ha : PA X (e :: es) ta)
    (hdb : (x == ("__debug__" : Str)) = false := by decide) (he : starEach (e :: es) X.env = (false, eval e X.env) :: starEach es X.env := by rfl) (hpl : (backTo pos (starEach es X.env)).any (·.1) = false := by rfl) : L2H.PMk5 X (.Call (.Name x p) (e :: es) [] pos) (tMkO C sp dvs ta) := by
  obtain ⟨hp0, h1, h2⟩ := hot
  obtain ⟨nm, q, N, bs, bm, sn, sub, ab, col, dd, k0, k1, k2, k3, k5, hC, ov⟩ := T.cls
  refine fun pins s σ H Q I want => wpAny_Call_Name_kw (ld_glob I hg hm (PySem.W.callWith_K (h₀ := X.base) I.ok.mod.kin T.keep_ (thn (ha.run pos pins s σ H _ I want) fun us s1 ⟨vs, H1, I1, r1, hz, q1⟩ => ⟨I1.kIn, ?_⟩) he hpl) hdb)
  show wpAny _ X.A (call (.ref C) us) _ _ _
  obtain ⟨hp, g, dw, tk, os⟩ := s1
  have above : hp.objs.size ≤ hp.objs.size + 1 := Nat.le_add_right _ 1
  have want2 := q1 (hp.objs.size + 1) (I1.hok.fresh above)
  have kept : ∀ b o, hp.get? b = some o → ((hp.push (PySem.W.kdv_tup us)).push (PySem.HandSPX.excO C hp.objs.size)).get? b = some o := fun b o z => Heap.get?_push_of_some _ (Heap.get?_push_of_some _ z)
  have at_ : ((hp.push (PySem.W.kdv_tup us)).push (PySem.HandSPX.excO C hp.objs.size)).get? (hp.objs.size + 1) = some (PySem.HandSPX.excO C hp.objs.size) := by heap_get
  have J : Inv X pins σ (upd H1 (hp.objs.size + 1) (exo (hp.objs.size + 1) C none)) ⟨(hp.push (PySem.W.kdv_tup us)).push (PySem.HandSPX.excO C hp.objs.size), g, dw, tk, os⟩ :=
    I1.laid (t' := tk) (a := hp.objs.size + 1) (o := exo (hp.objs.size + 1) C none) (h' := (hp.push (PySem.W.kdv_tup us)).push (PySem.HandSPX.excO C hp.objs.size)) kept above (exo_ok at_)
  have rel : Vals (V.ref (hp.objs.size + 1) :: (vs ++ dvs)) (Value.ref (hp.objs.size + 1) :: (us ++ ds)) := .cons rfl (r1.append hd)
  have ln : (Value.ref (hp.objs.size + 1) :: us ++ ds).length = ps.length := by
    have z := rel.length
    rw [Fn.len _ _ _ _ want2] at z
    exact z.symm
  have few : us.length ≤ sizeLine := by
    rw [← r1.length, sizeLine_eq]
    omega
  have pinned : L2H.PinOk X.stack (upd H1 (hp.objs.size + 1) (exo (hp.objs.size + 1) C none)) ⟨(hp.push (PySem.W.kdv_tup us)).push (PySem.HandSPX.excO C hp.objs.size), g, dw, tk, os⟩ hp0 := by
    obtain ⟨q1, q2, q3, q4, q5⟩ := J.pin hp0 (List.mem_append_left _ h2)
    refine ⟨q1, q2, fun z => ?_, q5⟩
    rcases List.mem_cons.mp (J.stkSub hp0.1 z) with w | w
    · exact q3 w
    · exact q4 w
  have run := Fn.run _ X.stack _ _ ⟨Value.ref (hp.objs.size + 1) :: us, []⟩ (Value.ref (hp.objs.size + 1) :: (us ++ ds)) _ _ (fun _ _ _ => False) hp0 (room.make C us []) ⟨h1.1, h1.2⟩ pinned (J.env0.make C us []) (bd _ (Value.ref (hp.objs.size + 1) :: us) J.kIn ln) rel want2
  refine wpAny_call (PySem.HandSPX.call_own T.bas.base (fun Y => ov.has Y) (I1.kIn _ _ hC) (PySem.W.looks_findIn I1.kIn iC) (fun self => PySem.W.bind_fn I1.kIn self tI) few (codeAny_mono run fun r s2 got => ?_))
  match r, got with
  | .error er, got => exact pass pins σ _ _ er s2 J got
  | .ok (.ret u), got =>
    obtain ⟨v, H2, os2, bare2, un2, hok2, rv, ev, d, fs, ea, ed, hd1, q2⟩ := got
    subst ev
    obtain ⟨h2, g2, d2, t2, os3⟩ := s2
    obtain ⟨t0, G, J2, kG, ge, hoe, na⟩ := mk_end0 (d2 := d2) (t2 := t2) I1 above kept un2 hok2 os2 bare2 ea ed hd1
    exact ⟨rv, ⟨hp.objs.size + 1, _, _, ⟨G, g2, d2, t2, os3⟩, _, .ref C, some d, rfl, J2, kG, ge, hoe, ⟨rfl, rfl, fun row z => by cases z; rfl⟩, rfl, rfl, na, rfl, bare2, raises_own T.sub_ T.typ_, q2⟩, fun b ob row e1 e2 e3 => by
      cases e1
      have e2 : h2.get? (hp.objs.size + 1) = some ob := e2
      rw [hoe] at e2
      cases e2
      cases e3
      show (4 : Nat) < 6
      decide⟩
  | .ok .next, got => exact False.elim got
  | .ok .brk, got => exact False.elim got
  | .ok .cont, got => exact False.elim got
end
end Kx
namespace Tr
open PySem PySem.Spec PyProof.Rows L2 Evl Kc Kz Kx
/-- the class c of the program: an error of one field, also while another is handled -/
structure ErH (P : Program) (w : World) (K : PySem.W.Frag) (mg : Str → Option Value) (base : Heap) (c : Str) (D : Addr) (fl x : Str) (lv : Nat) : Prop where
  T : ∃ (B newId initId : String) (tail : List Value), OexB K D B newId initId tail
  mgE : mg c = some (.ref D)
  ini : ∃ fI fd, PySem.W.findIn K (.ref D) "__init__" = some (some (.ref fI)) ∧ PySem.W.typeIn K (.ref fI) = some (.type "function") ∧ L2H.FnH P w K mg base CX0 lv fI fd ["self", x] (spErr1 D fl spKf) ∧ Binds K fd ["self", x] []
theorem ts_raiseF {X : Cx} {P : Program} {w : World} {K : PySem.W.Frag} {mg : Str → Option Value} {base : Heap} {c x fl : Str} {D : Addr} {lv k j : Nat} {e : Expr} {fr : FA} {p pos rpos cp : Pos} (d : ErH P w K mg base c D fl x lv) (i : In X P w K mg base) (lax : Lax X.mg (.ref D)) (hot : L2H.HotC X) (hr : L2H.RoomH k X.A) (hk : lv + 1 ≤ k) (hg : Gl X c) (ha : TrA X [e] fr)
    (hdb : (c == ("__debug__" : Str)) = false := by decide) (he : starEach [e] X.env = [(false, eval e X.env)] := by rfl) : TrS X (.Raise (some (.Call (.Name c p) [e] [] pos)) (some (.Constant .none j cp)) rpos) (sRaise1 D fl fr) := by
  obtain ⟨rfl, rfl, rfl, rfl, rfl⟩ := i
  obtain ⟨fI, fd, iC, tI, ok, bd⟩ := d.ini
  obtain ⟨_, _, _, _, T⟩ := d.T
  intro W E ρ G σ H M N y tk R lx lk hf pins s I
  refine (L2H.ps_raiseHN hot tk.1.2 (pmk_oexbH T iC tI ok (hr.mono hk) hot bd .nil pass0 hg d.mgE pa_w hdb he rfl)).run pins s σ H M I ?_
  refine ha W E ρ G σ H _ _ y tk R lx (fun as ρ1 G1 vs H1 e1 R1 q1 h1 => ?_) hf
  obtain ⟨ds, rp, h1⟩ := dats_rps q1 h1
  cases rp with
  | nil => exact h1.elim
  | @cons v dd _ _ rv t =>
    cases t with
    | cons _ _ => exact h1.elim
    | nil =>
      obtain ⟨flat, want⟩ := h1
      refine ⟨by show 1 ≤ 1000; decide, fun a na => ⟨a, v, rfl, upd_same, v, 5, rfl, flatV_of rv flat, upd_same, fun dx n1 n2 => ⟨rfl, dx, [(fl, v)], upd_same, ?_, ?_, lax, ?_⟩⟩⟩
      · rw [upd_ne n2, upd_same]
      · rw [upd_ne n2] at n1
        exact n1
      · rw [upd_ne n2] at n1
        rw [made_one na n2]
        obtain ⟨R2, e2⟩ := R1.made (o := .xd [(fl, v)]) n1
        exact lx ⟨D, [(fl, dd)]⟩ ρ1 _ σ dx _ R2 ⟨[(fl, v)], upd_same, .cons ⟨rfl, rv.mono e2⟩ .nil⟩ want
/-- try: .. except C: ..; the body raises errors of C alone, the suite such of the classes of L -/
def sTryR (C : Addr) (L : Addr → Prop) (fb fsu : FS) : FS := fun ρ N x => fb ρ N fun c ρ1 => c.cls = C ∧ fsu ρ1 N fun c ρ2 => L c.cls ∧ x c ρ2
theorem ts_tryR {X : Cx} {x : Str} {C : Addr} {L : Addr → Prop} {body suite : List Stmt} {b0 : Stmt} {np pos pos' : Pos} {fb fsu : FS} (hs : X.stack = X.env :: X.outer) (hf : X.env.frame = some X.env.locals) (gE : Gl X x) (mE : X.mg x = some (.ref C)) (te : PySem.W.exmOne X.K (.ref C) (.ref C) = some true)
    (tl : ∀ c, Lax X.mg c → PySem.W.exmOne X.K c (.ref C) = some false) (hL : ∀ a, L a → Lax X.mg (.ref a)) (pass : ∀ hd : Option Value, PassesOwnAt (model X.prog X.w) (X.A.mark hd) X.A X.env X.xe)
    (hb : ∀ (pn : List (Addr × Obj)) (xe : Value → Shared → Prop), TrB (X.tr pn xe) body fb)
    (hsu : ∀ (a : Addr) (oe : Obj) (pn : List (Addr × Obj)), L2H.HotC (L2H.suiteX X a ((a, oe) :: pn)) → TrB (L2H.suiteX X a ((a, oe) :: pn)) (b0 :: suite) fsu) (hdb : (x == ("__debug__" : Str)) = false := by decide) :
    TrS X (.Try body [.ExceptHandler (some (.Name x np)) none (b0 :: suite) pos'] [] [] pos) (sTryR C L fb fsu) := by
  intro W E ρ G σ H M N y tk R lx lk hfm pins s I
  refine (L2H.ps_try_onlyX (c := .ref C) (tb := fun W1 D σ H => ∀ (pn : List (Addr × Obj)) (xe : Value → Shared → Prop), L2N.Takes (X.tr pn xe) W1 → L2.Takes (X.tr pn xe) (L2H.wPass X.K (.ref C) (laxW X.mg W)) → wB (X.tr pn xe) body D σ H)
    (ts := fun a cls d D σ H => ∀ (oe : Obj) (pn : List (Addr × Obj)), L2.Takes (L2H.suiteX X a ((a, oe) :: pn)) (laxW X.mg W) → L2H.HotC (L2H.suiteX X a ((a, oe) :: pn)) → wB (L2H.suiteX X a ((a, oe) :: pn)) (b0 :: suite) D σ H) (Wout := laxW X.mg W)
    hs hf ⟨gE, hdb, .inl mE⟩ pass tk.1.2 (fun W1 pn xe t1 t2 _ => ⟨fun pins s σ H D I h => h pn xe t1 t2 pins s I⟩) (fun a oe cls d pn _ _ t3 hot => ⟨fun pins s σ H D I h => h oe pn t3 hot pins s I⟩)).run pins s σ H M I ?_
  intro pn xe t1 t2
  refine hb pn xe _ (E.atG G) ρ G σ H M N _ ⟨⟨t1, t2.imp fun c d σ H h => ?_⟩, tk.2⟩ R.atG (fun c ρ1 G1 σ1 dd H1 R1 xr hx => ?_) ⟨fun ρ' G' σ' H' e R' h => lk.nx ρ' G' σ' H' e (R.ofG R').1 h, fun a ρ' G' σ' v H' e R' q h => lk.rt a ρ' G' σ' v H' e (R.ofG R').1 q h, fun ρ' G' σ' H' e R' h => lk.bk ρ' G' σ' H' e (R.ofG R').1 h, fun ρ' G' σ' H' e R' h => lk.ct ρ' G' σ' H' e (R.ofG R').1 h⟩ hfm
  · obtain ⟨l, yes, e1, _, e2⟩ := h
    have no := tl c l
    rw [e1] at no
    exact ⟨e1.trans no, e2 (Option.some.inj no)⟩
  obtain ⟨ec, hx⟩ := hx
  obtain ⟨R1, e1⟩ := R.ofG R1
  rw [ec]
  refine ⟨true, te, fun _ a na oe pn2 t3 hot => ?_, fun z => nomatch z⟩
  exact hsu a oe pn2 hot _ E ρ1 G1 σ1 H1 M N _ ⟨wide t3, tk.2⟩ R1 (fun c ρ' G' σ' dd H' R' q h => ⟨hL _ h.1, lx c ρ' G' σ' dd H' R' q h.2⟩) ⟨fun ρ' G' σ' H' e R' h => lk.nx ρ' G' σ' H' (e1.trans e) R' h, fun b ρ' G' σ' v H' e R' q h => lk.rt b ρ' G' σ' v H' (e1.trans e) R' q h, fun ρ' G' σ' H' e R' h => lk.bk ρ' G' σ' H' (e1.trans e) R' h, fun ρ' G' σ' H' e R' h => lk.ct ρ' G' σ' H' (e1.trans e) R' h⟩ hx
end Tr
set_option Elab.async false
set_option linter.all false
set_option maxRecDepth 100000
namespace Tr
open PySem PySem.Spec PyProof.Rows L2 Evl Kc Kz Kx
/-- what stays as it is -/
def plainA : AV → Bool
  | .dat _ => true
  | .obj _ _ => true
  | _ => false
def forA (i : Nat) (fb : FS) : List AV → FS
  | [], ρ, N, _ => N.nx ρ
  | a :: as, ρ, N, x => putK i a ρ fun ρ1 => fb ρ1 { N with nx := fun ρ2 => forA i fb as ρ2 N x, ct := fun ρ2 => forA i fb as ρ2 N x, bk := N.nx } x
def sForA (i : Nat) (fr : FA) (fb : FS) : FS := fun ρ N x => fr ρ (fun as ρ1 => as.length ≤ sizeLine ∧ as.all plainA = true ∧ forA i fb as ρ1 N x) x
theorem paired_at {α β : Type} {R : α → β → Prop} : ∀ {as : List α} {bs : List β} {j : Nat} {a : α}, Paired R as bs → as[j]? = some a → ∃ b, bs[j]? = some b ∧ R a b
  | _, _, _, _, .nil, e => nomatch e
  | _, _, 0, _, .cons h _, e => by
    cases e
    exact ⟨_, rfl, h⟩
  | _, _, j + 1, _, .cons _ t, e => paired_at (j := j) t e
theorem res_back {K : PySem.W.Frag} {E : Ent} {ρ : S} {G H : Hp} {σ : L2.St} {p : Addr} {o : HO} {a : AV} {v : V} (q : Res K (E.aside p o) ρ G σ H a v) : Res K E ρ G σ H a v := by
  rcases q with q | q | ⟨h1, h2, q, h3, h4, h5, ⟨h6, h7⟩, h8⟩
  · exact .inl q
  · exact .inr (.inl q)
  · have h7 : upd E.F p o q = none := h7
    have n : q ≠ p := fun z => by
      rw [z, upd_same] at h7
      cases h7
    rw [upd_ne n] at h7
    exact .inr (.inr ⟨h1, h2, q, h3, h4, h5, ⟨h6, h7⟩, h8⟩)
theorem hold_plain {K : PySem.W.Frag} {E : Ent} {ρ : S} {G H : Hp} {σ : L2.St} {a : AV} {v : V} (q : Res K E ρ G σ H a v) (pl : plainA a = true) : a.isOwn = false ∧ Hold K G H a v := by
  rcases q with ⟨i, z, _⟩ | q | ⟨z, _⟩
  · rw [z] at pl
    cases pl
  · exact q
  · cases a <;> first | (cases z; done) | (cases pl; done)
theorem ts_forA {X : Cx} {es : List Expr} {fr : FA} {fb : FS} {body : List Stmt} {v : Str} {tp lp pos : Pos} (i : Nat) (ha : TrA X es fr) (hN : X.N.Nodup) (hi : X.N[i]? = some v) (hx : Loc X.env.scope v) (hb : TrB X body fb) (hp : PassesOwn (model X.prog X.w) X.A X.env X.xe) (hc : X.calm = true)
    (hf : X.fn v = true ∨ X.env.scope.names.lookup v = some .local := by first | exact .inl rfl | exact .inr rfl | assumption) (hs : ∀ x, foldedSetIterable (.List es lp) X.env x = pure x := by intro _; rfl) : TrS X (.For (.Name v tp) (.List es lp) body [] pos) (sForA i fr fb) := by
  refine .of (ps_for hp hc (pi_list (pe_lst pa_w)) (pg_name hN hi hx hf) pb_w hs) fun W E ρ G σ H M N x tk R lx lk hw => ?_
  refine ha W E ρ G σ H _ _ x tk R lx (fun as ρ1 G1 vs H1 e1 R1 q1 h1 => ?_) hw
  obtain ⟨sz, pl, h1⟩ := h1
  have vl : as.length = vs.length := Paired.length q1
  refine ⟨by rw [← vl]; exact sz, fun p n => ⟨p, rfl, ⟨vs, .inl (.inl upd_same)⟩, ?_⟩⟩
  have hold : ∀ j a, as[j]? = some a → ∃ u, vs[j]? = some u ∧ a.isOwn = false ∧ Hold X.K G1 H1 a u := fun j a hj => by
    obtain ⟨u, hu, q⟩ := paired_at q1 hj
    exact ⟨u, hu, hold_plain q.2 (List.all_eq_true.mp pl a (List.mem_of_getElem? hj))⟩
  have f0 := R1.f0 n
  have RA : Rel X.K (E.aside p (.lst vs)) ρ1 G1 σ (upd H1 p (.lst vs)) := (R1.alloc n).aside upd_same (R1.g0 n) (R1.loose n)
  have w := walk_list (K := X.K) (a := p) (xs := vs)
  refine ⟨fun j m σ' H' => m = as.length - j ∧ j ≤ as.length ∧ ∃ ρ' G', Ex G1 G' ∧ Rel X.K (E.aside p (.lst vs)) ρ' G' σ' H' ∧ forA i fb (as.drop j) ρ' N x, ⟨as.length, by simp, Nat.zero_le _, ρ1, G1, Ex.refl _, RA, h1⟩, ?_⟩
  rintro j m σ' H' ⟨rfl, hj, ρ', G', e2, R2, h2⟩
  have sq : SqL X.K H' p vs := .inl (.inl (R2.back f0).2.1)
  by_cases lt : j < as.length
  · rw [List.drop_eq_getElem_cons lt] at h2
    have lt2 : j < vs.length := by rw [← vl]; exact lt
    refine .inr ⟨w.goes j H' lt2 sq, fun σ2 H2 => ∃ ρ2 G2, Ex G1 G2 ∧ Rel X.K (E.aside p (.lst vs)) ρ2 G2 σ2 H2 ∧ forA i fb (as.drop (j + 1)) ρ2 N x, fun σ2 H2 hN => ⟨as.length - (j + 1), by omega, rfl, lt, hN⟩, fun u H3 y => ?_⟩
    obtain ⟨rfl, y2⟩ := w.yields j H' u H3 lt2 sq y
    obtain ⟨u', hu, no, hh⟩ := hold j as[j] (List.getElem?_eq_getElem lt)
    rw [y2] at hu
    cases hu
    obtain ⟨h3, np, na⟩ := putK_of h2
    have R3 := R2.putRes (i := i) (a := as[j]) (v := u) (.inr (.inl ⟨no, hh.still e2 no⟩)) np na
    exact hb W (E.aside p (.lst vs)) _ G' _ H3 _ { N with nx := fun ρ2 => forA i fb (as.drop (j + 1)) ρ2 N x, ct := fun ρ2 => forA i fb (as.drop (j + 1)) ρ2 N x, bk := N.nx } x ⟨tk.1, tk.2⟩ R3 (fun c ρ5 G5 σ5 dd H5 R5 q h => lx c ρ5 G5 σ5 dd H5 (R5.back f0).1 q h)
      ⟨fun ρ5 G5 σ5 H5 e5 R5 h5 => ⟨ρ5, G5, e2.trans e5, R5, h5⟩, fun a ρ5 G5 σ5 v5 H5 e5 R5 q h => lk.rt a ρ5 G5 σ5 v5 H5 ((e1.trans e2).trans e5) (R5.back f0).1 (res_back q) h, fun ρ5 G5 σ5 H5 e5 R5 h => lk.nx ρ5 G5 σ5 H5 ((e1.trans e2).trans e5) (R5.back f0).1 h, fun ρ5 G5 σ5 H5 e5 R5 h5 => ⟨ρ5, G5, e2.trans e5, R5, h5⟩⟩ h3
  · have e : j = as.length := by omega
    subst e
    rw [List.drop_length] at h2
    refine .inl ⟨?_, lk.nx ρ' G' σ' H' (e1.trans e2) (R2.back f0).1 h2⟩
    rw [vl]
    exact w.stops H' sq
/-- the same, the display told by its wrapper -/
theorem ts_forAW {X : Cx} {es : List Expr} {fr : FA} {fb : FS} {body : List Stmt} {v : Str} {tp lp pos : Pos} (i : Nat) (ha : TaW X es fr) (hN : X.N.Nodup) (hi : X.N[i]? = some v) (hx : Loc X.env.scope v) (hb : TbW X body fb) (hp : PassesOwn (model X.prog X.w) X.A X.env X.xe) (hc : X.calm = true)
    (hf : X.fn v = true ∨ X.env.scope.names.lookup v = some .local := by first | exact .inl rfl | exact .inr rfl | assumption) : TrS X (.For (.Name v tp) (.List es lp) body [] pos) (sForA i fr fb) := ts_forA i ha.run hN hi hx hb.run hp hc hf (fun _ => rfl)
end Tr
set_option Elab.async false
set_option linter.all false
set_option maxRecDepth 100000
namespace Tr
open PySem PySem.Spec PyProof.Rows L2 Evl Kc Kz Kx
abbrev KD := Key × D
def putD (acc : List KD) (k : Key) (r : D) : List KD := if (acc.any fun e => decide (e.1 = k)) = true then acc.map (fun e => if e.1 = k then (e.1, r) else e) else acc ++ [(k, r)]
section
variable {K : PySem.W.Frag} {G : Hp}
/-- the entries, one by one -/
inductive Ent2 (K : PySem.W.Frag) (G : Hp) : List (Key × V) → List KD → Prop
  | nil : Ent2 K G [] []
  | cons {k : Key} {v : V} {d : D} {vs : List (Key × V)} {ds : List KD} : Rp K G v d → Ent2 K G vs ds → Ent2 K G ((k, v) :: vs) ((k, d) :: ds)
theorem Ent2.mono {G' : Hp} (e : Ex G G') : ∀ {vs : List (Key × V)} {ds : List KD}, Ent2 K G vs ds → Ent2 K G' vs ds
  | _, _, .nil => .nil
  | _, _, .cons h t => .cons (h.mono e) (Ent2.mono e t)
theorem Ent2.len : ∀ {vs : List (Key × V)} {ds : List KD}, Ent2 K G vs ds → vs.length = ds.length
  | _, _, .nil => rfl
  | _, _, .cons _ t => congrArg (· + 1) (Ent2.len t)
theorem Ent2.any {k : Key} : ∀ {vs : List (Key × V)} {ds : List KD}, Ent2 K G vs ds → (vs.any fun e => decide (e.1 = k)) = ds.any fun e => decide (e.1 = k)
  | _, _, .nil => rfl
  | _, _, .cons _ t => by rw [List.any_cons, List.any_cons, Ent2.any t]
theorem Ent2.over {k : Key} {v : V} {r : D} (h : Rp K G v r) : ∀ {vs : List (Key × V)} {ds : List KD}, Ent2 K G vs ds → Ent2 K G (vs.map fun e => if e.1 = k then (e.1, v) else e) (ds.map fun e => if e.1 = k then (e.1, r) else e)
  | _, _, .nil => .nil
  | _, _, .cons (k := k2) a t => by
    simp only [List.map_cons]
    by_cases z : k2 = k
    · rw [if_pos z, if_pos z]
      exact .cons h (Ent2.over h t)
    · rw [if_neg z, if_neg z]
      exact .cons a (Ent2.over h t)
theorem Ent2.snoc {k : Key} {v : V} {r : D} (h : Rp K G v r) : ∀ {vs : List (Key × V)} {ds : List KD}, Ent2 K G vs ds → Ent2 K G (vs ++ [(k, v)]) (ds ++ [(k, r)])
  | _, _, .nil => .cons h .nil
  | _, _, .cons a t => .cons a (Ent2.snoc h t)
theorem Ent2.put {k : Key} {v : V} {r : D} {vs : List (Key × V)} {ds : List KD} (t : Ent2 K G vs ds) (h : Rp K G v r) : Ent2 K G (L2.putK vs k v) (putD ds k r) := by
  unfold L2.putK putD
  rw [t.any]
  cases z : ds.any fun e => decide (e.1 = k) with
  | true => exact t.over h
  | false => exact t.snoc h
end
end Tr
set_option Elab.async false
set_option linter.all false
set_option maxRecDepth 100000
namespace Tr
open PySem PySem.Spec PyProof.Rows L2 Evl Kc Kz Kx
def isL (d : D) : Prop := ∃ ds, d = .list ds
end Tr
set_option Elab.async false
set_option linter.all false
set_option maxRecDepth 100000
namespace Kx
open PySem PySem.Spec PyProof.Rows L2
section
variable {X : Cx}
theorem eqU_many {y : V} : ∀ {ys : List V} {us : List Value}, Vals ys us → ys.all flatV = true → us.countP (eqU y) = ys.countP fun z => eqV z y
  | _, _, .nil, _ => rfl
  | z :: ys, u :: us, .cons r t, f => by
    rw [List.all_cons] at f; rw [Bool.and_eq_true] at f
    rw [List.countP_cons, List.countP_cons, eqU_many t f.2, eqU_of r f.1]
def rCntF (K : PySem.W.Frag) : V → List V → Hp → VK → Prop := fun x xs H Q => ∃ (a : Addr) (ys : List V) (y : V), x = V.ref a ∧ xs = [y] ∧ SqL K H a ys ∧ flatV y = true ∧ ys.all flatV = true ∧ Q (.int (ys.countP (fun z => eqV z y) : Nat)) H
theorem mt_countF : MtR X "list.count" (rCntF X.K) := by
  intro pins s σ H x xs v us Q I rx rxs want
  obtain ⟨a, ys, y, rfl, rfl, sq, f1, f2, go⟩ := want
  cases rx
  cases rxs with
  | cons ry rt =>
    cases rt
    rename_i uy
    obtain ⟨its, rv, ⟨⟨cls, dd, data, sl⟩, n, at_, hc, _, hd⟩, _⟩ := I.list sq
    simp only at hc hd
    subst hc hd
    have all := eqU_many (y := y) rv f2
    exact call_meets PySem.F.slot_list_count ⟨_, at_, rfl⟩ PySem.F.entry_list_count (PySem.F.args_list_count_2 _ _) (SeqAt.list_countAt a its.toArray n dd sl uy (eqU y))
      ⟨at_, fun u m => mem_eqAt ry f1 rv f2 u (by simpa using m), ⟨.int (ys.countP (fun z => eqV z y) : Nat), H, I.tok _, ⟨s.toks, by rw [← all]⟩, go⟩⟩
end
end Kx
namespace Tr
open PySem PySem.Spec PyProof.Rows L2 Evl Kc Kz Kx
/-- how often e is there -/
def gCnt : Op2 := fun d e k =>
  match d with
  | .list ds => (flatD e && ds.all flatD) = true ∧ k (.val (.int ((ds.countP fun c => eqD c e : Nat) : Int)))
  | _ => False
def fCnt (fa fb : FE) : FE := fun ρ k x => fa ρ (fun a ρ1 => fz a fun a' => vw ρ1 a' fun d => isL d ∧ fb ρ1 (fun b ρ2 => vw ρ2 a' fun d => vw ρ2 b fun e => gCnt d e fun o => k o.av ρ2) x) x
section
variable {X : Cx} {o e : Expr} {fa fb : FE} {apos cpos : Pos}
theorem cnt_same {K : PySem.W.Frag} {G : Hp} {u : V} {c : D} (rc : Rp K G u c) (fc : flatD c = true) : ∀ {ys : List V} {ds : List D}, Rps K G ys ds → ds.all flatD = true → (ys.countP fun z => eqV z u) = ds.countP fun d => eqD d c
  | _, _, .nil, _ => rfl
  | _, _, .cons h t, f => by
    rw [List.all_cons] at f; rw [Bool.and_eq_true] at f
    rw [List.countP_cons, List.countP_cons, cnt_same rc fc t f.2, eq_v h rc f.1 fc]
theorem xe_countL (ho : TrE X o fa) (he : TrE X e fb) (hbase : attributeBase o "count" X.env (eval o X.env) = eval o X.env := by rfl)
    (hfew : ((backTo cpos (starEach [e] X.env)).all (fun x => !x.1) && (backToKw cpos (keywordEach [] X.env)).all (fun x => x.1.isSome) && decide ([e].length + ([] : List Keyword).length + (if ([] : List Keyword).isEmpty then 0 else 1) < 30)) = true := by rfl)
    (hs : starEach [e] X.env = (false, eval e X.env) :: starEach [] X.env := by rfl) (hline : (apos.endLine == cpos.line) = true := by rfl) (hplain : (backTo cpos (starEach [] X.env)).any (·.1) = false := by rfl) :
    TrE X (.Call (.Attribute o "count" apos) [e] [] cpos) (fCnt fa fb) :=
  .of (pe_bm PySem.F.plainAttrs_list PySem.F.slot_list_count PySem.F.type_list_count mt_countF pe_w (pa_cons pe_w pa_nil hs) hbase hfew hline hs hplain) fun W E ρ G σ H Q k x tk R lx lk hf => by
  refine ho W E ρ G σ H _ _ x tk R lx (fun a ρ1 G1 v H1 e1 R1 q1 h1 => ?_) hf
  obtain ⟨a', G2, no, e2, R2, q2, h1⟩ := q1.fz R1 h1
  obtain ⟨d, vd, ⟨ds, rfl⟩, h1⟩ := q2.vw R2 h1
  obtain ⟨p, xs, rfl, hp, _⟩ := vd.lsts R2.sub
  refine ⟨.inl ⟨rfl, xs, .inl (.inl hp)⟩, ?_⟩
  refine he W E ρ1 G2 σ H1 _ _ x tk R2 lx (fun b ρ3 G3 u H3 e3 R3 q3 h3 => ?_) h1
  have q2' : Res X.K E ρ3 G3 σ H3 a' (.ref p) := q2.stay no e3
  obtain ⟨d2, vd2, h3⟩ := q2'.vw R3 h3
  obtain ⟨c, vc, h3⟩ := q3.vw R3 h3
  cases d2 with
  | list ds2 =>
    obtain ⟨fl, hk⟩ := h3
    rw [Bool.and_eq_true] at fl
    obtain ⟨p2, ys, z, hy, ry⟩ := vd2.lsts R3.sub
    cases z
    have rc : Rp X.K G3 u c := vc.flat fl.1
    refine ⟨p, ys, u, rfl, rfl, .inl (.inl hy), flat_v rc fl.1, flat_vs ry fl.2, ?_⟩
    rw [cnt_same rc fl.1 ry fl.2]
    exact lk (.dat (.int _)) ρ3 G3 _ H3 ((e1.trans e2).trans e3) R3 (.dat (.int _)) hk
  | _ => exact h3.elim
end
end Tr
set_option Elab.async false
set_option linter.all false
set_option maxRecDepth 100000
namespace Tr
open PySem PySem.Spec PyProof.Rows L2 Evl Kc Kz Kx
def fIsT (T : String) (C : Addr) (fa : FE) : FE := fun ρ k x => fa ρ (fun a ρ1 => (isO C a ∧ k (.dat (.bool false)) ρ1) ∨ vw ρ1 a fun d => k (.dat (.bool (isT T d))) ρ1) x
section
variable {X : Cx} {fa : FE} {a : Expr} {n c : Str} {T : String} {C : Addr} {p p1 pos : Pos}
theorem xe_isT (i : InsC X.K X.mg c C) (no : PySem.W.kitOne X.K (.ref C) (.type T) = some false) (hg : Gl X "isinstance") (hm : X.mg "isinstance" = none) (hT : ∀ t ∈ tyNs, (kitB t T).isSome = true) (pt : PE X (.Name n p1) (tC (.ty T))) (ha : TrE X a fa)
    (st : starEach [a, .Name n p1] X.env = (false, eval a X.env) :: starEach [.Name n p1] X.env := by rfl) (pl : (backTo pos (starEach [.Name n p1] X.env)).any (·.1) = false := by rfl) (st1 : starEach [.Name n p1] X.env = (false, eval (.Name n p1) X.env) :: starEach [] X.env := by rfl) :
    TrE X (.Call (.Name "isinstance" p) [a, .Name n p1] [] pos) (fIsT T C fa) := .of (pe_callB call_isi hg hm (by decide +kernel) (pa_cons pe_w (pa_cons pt pa_nil st1) st) (by decide) (by decide) st pl) fun W E ρ G σ H Q k x tk R lx lk hw => by
  refine ha W E ρ G σ H _ _ x tk R lx (fun b ρ1 G1 v H1 e1 R1 q1 h1 => ?_) hw
  rcases h1 with ⟨ob, h1⟩ | h1
  · obtain ⟨na, q, dx, vs, rfl, g1⟩ := obj_res q1 ob
    exact ⟨.ref q, .ty T, .ref C, .type T, false, rfl, .ty T, .base (.ins (R1.sub _ _ g1) i.cl i.kl i.kg i.kt i.ko), no, lk (.dat (.bool false)) ρ1 G1 _ H1 e1 R1 (.dat (.bl false)) h1⟩
  · obtain ⟨d, vd, h1⟩ := q1.vw R1 h1
    exact ⟨v, .ty T, .type (tyN d), .type T, isT T d, rfl, .ty T, vd.ty R1.sub, isT_kit hT d, lk (.dat (.bool (isT T d))) ρ1 G1 _ H1 e1 R1 (.dat (.bl _)) h1⟩
end
end Tr
set_option Elab.async false
set_option linter.all false
set_option maxRecDepth 100000
namespace Tr
open PySem PySem.Spec PyProof.Rows L2 Evl Kc Kz Kx
section
variable {X : Cx} {o e : Expr} {fa : FE} {fr : FA} {apos cpos pos p : Pos}
def fUp (fa : FE) : FE := fun ρ k x => fa ρ (fun a ρ1 => vw ρ1 a fun d => txtK d fun z => z.length ≤ 100000 ∧ k (.dat (.str (Txt.upper z))) ρ1) x
theorem xe_up (ho : TrE X o fa) (hbase : attributeBase o "upper" X.env (eval o X.env) = eval o X.env := by rfl) (hline : (apos.endLine == cpos.line) = true := by rfl) : TrE X (.Call (.Attribute o "upper" apos) [] [] cpos) (fUp fa) :=
  .of (pe_bm0 PySem.F.plainAttrs_str PySem.F.slot_str_upper PySem.F.type_str_upper mt_upper pe_w hbase hline) fun W E ρ G σ H Q k x tk R lx lk hf => by
  refine ho W E ρ G σ H _ _ x tk R lx (fun a ρ1 G1 v H1 e1 R1 q1 h1 => ?_) hf
  obtain ⟨d, vd, h1⟩ := q1.vw R1 h1
  obtain ⟨z, rfl, l, h1⟩ := txtK_of h1
  obtain rfl := vd.strs
  exact ⟨rfl, z, rfl, rfl, Nat.le_trans l (by decide), lk (.dat (.str (Txt.upper z))) ρ1 G1 _ H1 e1 R1 (.dat (.str _)) h1⟩
end
end Tr
set_option Elab.async false
set_option linter.all false
set_option maxRecDepth 100000
set_option maxHeartbeats 1000000
namespace Tr
open PySem PySem.Spec PyProof.Rows L2 Evl Kc Kz Kx
section
open AutoSeq1 (wpAny_loadPart')
open MeetsSeq MeetsSeq2 MeetsSeq3 SeqRoads2 SeqAt
variable {P : Program} {w : World}
theorem ne_longer {a b : Addr} {us ws : Array Value} {n m : Nat} {d d' : Option Addr} {z z' : Array (Option Value)} (sz : us.size ≠ ws.size) : MeetsIn P w (Builtin.«list.__ne__» ⟨[.ref a, .ref b], []⟩)
      (fun A R s => s.heap.get? a = some (lstO us n d z) ∧ s.heap.get? b = some (lstO ws m d' z') ∧ R (.ok (.ret (.bool true))) s) := by
  intro A R ⟨h0, g0, r0, t0, o0⟩ ⟨ha, hb, fin⟩
  have two := AutoSeq1.sub_list_list
  have yes : (us.size != ws.size) = true := bne_iff_ne.mpr sz
  wp_walk using wpAny_loadPart' ha, wpAny_loadPart' hb
  exact fin
theorem rc_longer {A : Around} {s : Shared} {a b : Addr} {us ws : Array Value} (ha : s.heap.IsList a us) (hb : s.heap.IsList b ws) (sz : us.size ≠ ws.size) (hu : A.units < cLine)
    (E Q : Value → Shared → Prop) (fin : Q (.bool true) s) : wpAny (model P w) A (richCompare .NotEq (.ref a) (.ref b)) Q E s := by
  obtain ⟨⟨c1, d1, t1, z1⟩, e1, k1, n1, y1⟩ := id ha
  obtain ⟨⟨c2, d2, t2, z2⟩, e2, k2, n2, y2⟩ := id hb
  dsimp only at k1 y1 k2 y2
  subst k1 y1 k2 y2
  have la : s.TypeIs (.ref a) "list" := ⟨_, e1, rfl⟩
  have lb : s.TypeIs (.ref b) "list" := ⟨_, e2, rfl⟩
  exact wpAny_richCompare_same_room (op := .NotEq) la lb F.slot_list_ne (call_meetsIn F.slot_list_ne la F.entry_list_ne (F.args_list_ne_2 _ _) (ne_longer (n := n1) (m := n2) (d := d1) (d' := d2) (z := z1) (z' := z2) sz) ⟨e1, e2, (show Value.bool true ≠ Value.notImplemented ∧ Q (.bool true) s from ⟨(fun q => nomatch q), fin⟩)⟩) hu
end
section
variable {X : Cx} {fa fb : FE} {a b : Expr} {pos : Pos}
def rNeL (K : PySem.W.Frag) : R2 := fun x y H Q => ∃ p q xs ys, x = .ref p ∧ y = .ref q ∧ SqL K H p xs ∧ SqL K H q ys ∧ xs.length ≠ ys.length ∧ Q (.bl true) H
theorem op_neL (hu : X.A.units + 64 < cLine) : OpR X (compareOp .NotEq) (rNeL X.K) := fun pins s σ H x y v u Q I rx ry h => by
  obtain ⟨p, q, xs, ys, rfl, rfl, hp, hq, ne, h⟩ := h
  have rx1 : v = Value.ref p := rx
  have ry1 : u = Value.ref q := ry
  subst rx1 ry1
  obtain ⟨us, r1, p1, _⟩ := I.list hp
  obtain ⟨ws, r2, p2, _⟩ := I.list hq
  refine rc_longer p1.isList p2.isList ?_ (by omega) _ _ ⟨.bl true, H, I, rfl, h⟩
  rw [List.size_toArray, ← r1.length, List.size_toArray, ← r2.length]
  exact ne
def gNeL : Op2 := fun d e k => ∃ ds es : List D, d = .list ds ∧ e = .list es ∧ ds.length ≠ es.length ∧ k (.val (.bool true))
theorem y_neL {K : PySem.W.Frag} : Y2 K (rNeL K) gNeL := fun G H x y d e s hx hy Q k o h => by
  obtain ⟨ds, es, rfl, rfl, ne, hk⟩ := h
  obtain ⟨p, xs, rfl, hp, rp⟩ := hx.lsts s
  obtain ⟨q, ys, rfl, hq, rq⟩ := hy.lsts s
  exact ⟨p, q, xs, ys, rfl, rfl, .inl (.inl hp), .inl (.inl hq), by rw [rp.len, rq.len]; exact ne, o.val _ _ (.bl _) hk⟩
abbrev gNeY : Op2 := fun d e k => gNeX d e k ∨ gNeL d e k
end
end Tr
set_option Elab.async false
set_option linter.all false
set_option maxRecDepth 100000
set_option maxHeartbeats 1000000
namespace Tr
open PySem PySem.Spec PyProof.Rows L2 Evl Kc Kz Kx
section
open AutoSeq1 (wpAny_loadPart')
open MeetsSeq MeetsSeq2 MeetsSeq3 SeqRoads2 SeqAt
variable {P : Program} {w : World}
theorem dict_not_str (p : Addr) (es : Array DictEntry) (ep : Nat) (d : Option Addr) (z : Array (Option Value)) (b : Str) (u : Tok) :
    Meets (Builtin.«dict.__ne__» ⟨[.ref p, .str b u], []⟩) (fun _ R s => s.heap.get? p = some { cls := .type "dict", dict := d, data := .dict es ep, slots := z } ∧ R (.ok (.ret .notImplemented)) s) :=
  .of_wp fun P w A R s h => by
    obtain ⟨h0, g0, r0, t0, o0⟩ := s
    obtain ⟨hp, fin⟩ := h
    have sb := F.sub_str_dict
    wp_walk using wpAny_loadPart' hp
    exact ⟨_, rfl, fin⟩
theorem str_not_dict (b : Str) (u : Tok) (p : Addr) (es : Array DictEntry) (ep : Nat) (d : Option Addr) (z : Array (Option Value)) :
    Meets (Builtin.«str.__ne__» ⟨[.str b u, .ref p], []⟩) (fun _ R s => s.heap.get? p = some { cls := .type "dict", dict := d, data := .dict es ep, slots := z } ∧ R (.ok (.ret .notImplemented)) s) :=
  .of_wp fun P w A R s h => by
    obtain ⟨h0, g0, r0, t0, o0⟩ := s
    obtain ⟨hp, fin⟩ := h
    wp_walk using wpAny_loadPart' hp, wpAny_load hp
    exact ⟨_, rfl, fin⟩
theorem rc_dict_str {A : Around} {s : Shared} {p : Addr} {o : Obj} {es : Array DictEntry} {ep : Nat} {b : Str} {u : Tok} (ho : s.heap.get? p = some o) (hc : o.cls = .type "dict") (hd : o.data = .dict es ep) (hu : A.units < cLine) (E Q : Value → Shared → Prop) (fin : Q (.bool true) s) : wpAny (model P w) A (richCompare .NotEq (.ref p) (.str b u)) Q E s := by
  obtain ⟨c, d, t, z⟩ := o
  dsimp only at hc hd
  subst hc hd
  exact rc_ne_decline_or (k := false) ⟨_, ho, rfl⟩ (typeIs_str s b u) (by decide) F.sub_str_dict F.slot_dict_ne F.slot_str_ne_refl
    (fun _ q => call_meets F.slot_dict_ne ⟨_, ho, rfl⟩ F.entry_dict_ne (F.args_dict_ne_2 _ _) (dict_not_str p es ep d z b u) ⟨ho, q⟩)
    (fun _ q => call_meets F.slot_str_ne_refl (typeIs_str s b u) F.entry_str_ne (F.args_str_ne_2 _ _) (str_not_dict b u p es ep d z) ⟨ho, q⟩)
    (fun _ q => wpAny_of_eq (rfl : isSame (.ref p) (.str b u) = pure false) q) (.inr hu) fin
end
section
variable {X : Cx} {fa fb : FE} {a b : Expr} {pos : Pos}
def rNeDS : R2 := fun x y H Q => ∃ p ks z, x = .ref p ∧ y = .str z ∧ H p = some (.dK ks) ∧ Q (.bl true) H
theorem op_neDS (hu : X.A.units + 64 < cLine) : OpR X (compareOp .NotEq) rNeDS := fun pins s σ H x y v u Q I rx ry h => by
  obtain ⟨p, ks, z, rfl, rfl, hp, h⟩ := h
  have ev : v = Value.ref p := rx
  subst ev
  obtain ⟨t, ey⟩ := (show ∃ t, u = Value.str z t from ry)
  subst ey
  obtain ⟨_, _, vs, _, dd⟩ := (show ObjOk X.prog X.w H s.heap p (.dK ks) from I.hok p _ hp)
  obtain ⟨o, es, ep, ho, ex, hd, _⟩ := dd
  exact rc_dict_str ho ex.1 hd (by omega) _ _ ⟨.bl true, H, I, rfl, h⟩
def gNeDS : Op2 := fun d e k => ∃ es z, d = .dict es ∧ e = .str z ∧ k (.val (.bool true))
theorem y_neDS {K : PySem.W.Frag} : Y2 K rNeDS gNeDS := fun G H x y d e s hx hy Q k o h => by
  obtain ⟨es, z, rfl, rfl, hk⟩ := h
  have hx := hx.all s
  have hy := hy.all s
  cases hx with
  | dct g _ =>
    cases hy
    exact ⟨_, _, _, rfl, rfl, g, o.val _ _ (.bl _) hk⟩
abbrev gNeZ : Op2 := fun d e k => gNeY d e k ∨ gNeDS d e k
theorem xt_neZ {n : Nat} (hr : Room n X.A) (ha : TrE X a fa) (hb : TrE X b fb) : TrT X (.Compare a [.NotEq] [b] pos) (fTest (f2 gNeZ fa fb)) := xt_cmp (OpR.or (OpR.or (OpR.or (op_neD (by have := hr.units; omega)) (op_neS (by have := hr.units; omega))) (op_neL (by have := hr.units; omega))) (op_neDS (by have := hr.units; omega))) (Y2.or (Y2.or (Y2.or y_ne y_neS) y_neL) y_neDS) (nomark _) ha hb
end
end Tr
set_option Elab.async false
set_option linter.all false
set_option maxRecDepth 100000
namespace KR
open PySem PySem.Spec PyProof.Rows L2 Evl Kc Kz Kx Tr Mg K23 K22 K27 K24 KA KB KI TL
open KP (fldT rowsT)
def low (z : Str) : Prop := ∀ c ∈ tl z, c < 128
structure Tz (z : Str) : Prop where
  l : z.length ≤ 1200
  w : low z
  c : (tl z).count 32 ≤ 60
  m : ∀ p ∈ Txt.split z " ", p.length ≤ 600
def isStr : D → Bool
  | .str _ => true
  | _ => false
abbrev exT (DT : Addr) (n : Int) : Exn := ⟨DT, [("line", .int n)]⟩
/-- a word, cut -/
def partT (w : Str) : D := .tuple (sts (Txt.split w ":"))
def fieldsZ (z : Str) : D := .list ((Txt.split z " ").map partT)
def F_readS (C DT : Addr) : FD := fun as k x => (∃ d : D, as = [.raw (.ref C), .dat d] ∧ ((∃ z, d = .str z ∧ Tz z ∧ (∀ rows, judge (fieldsZ z) = .inr rows → k (schO C rows)) ∧ ((∃ p i, judge (fieldsZ z) = .inl (p, i)) → x (exT DT 1))) ∨ (isStr d = false ∧ x (exT DT 0)))) ∨ (∃ rows, as = [.raw (.ref C), schO C rows] ∧ x (exT DT 0))
def F_names (C : Addr) : FD := fun as k _ => ∃ rows : List Mg.Row, as = [schO C rows] ∧ rows.length ≤ 20 ∧ k (.own false (.list (sts (rows.map (·.1)))))
def F_noteOf : FD := fun as k _ => ∃ rows : List Mg.Row, as = [.dat (flD rows)] ∧ rows.length ≤ 20 ∧ (∀ r ∈ rows, word r.1 ∧ three r.2) ∧ k (.dat (.str (rowsT rows)))
def F_rowsIn : FD := fun as k _ => ∃ z : Str, as = [.dat (.str z)] ∧ Tz z ∧ (∀ rows, judge (fieldsZ z) = .inr rows → k (.dat (flD rows))) ∧ ((∃ p i, judge (fieldsZ z) = .inl (p, i)) → k (.dat .none))
def metS : D → D
  | .str z => match judge (fieldsZ z) with
    | .inr rows => .list [.str "read", flD rows]
    | .inl _ => .list [.str "line", .int 1]
  | _ => .list [.str "line", .int 0]
def F_met10 (C : Addr) : FD := fun as k _ => (∃ d : D, as = [.dat d] ∧ (∀ z, d = .str z → Tz z) ∧ ∀ ds, metS d = .list ds → k (.own false (.list ds))) ∨ (∃ rows, as = [schO C rows] ∧ k (.own false (.list [.str "line", .int 0])))
def F_bent10 : FD := fun as k _ => ∃ (z : Str) (m : Nat), as = [.pot true, .dat (.str z)] ∧ z.length ≤ 400 ∧ low z ∧ (tl z).count 32 ≤ 40 ∧ m ≤ 400 ∧ (∀ p ∈ Txt.split z " ", p.length ≤ m) ∧ ∀ y : Str, y.length ≤ z.length + 2 * m + 45 → low y → (tl y).count 32 ≤ (tl z).count 32 + 5 → (∀ p ∈ Txt.split y " ", p.length ≤ z.length + 14) → k (.dat (.str y))
theorem F_names_one (C : Addr) : ∀ (fs : List (Str × D)) k, F_names C [.obj C fs] k (fun _ => False) → fs.lookup ("names" : Str) = none := fun fs k ⟨rows, e, _⟩ => by
  cases e
  rfl
end KR
set_option Elab.async false
set_option linter.all false
set_option maxRecDepth 100000
namespace Tr
open PySem PySem.Spec PyProof.Rows L2 Evl Kc Kz Kx
/-- what the names are told -/
structure TrKw (X : Cx) (kws : List Keyword) (fr : FA) : Prop where
  ex : ∃ tk, PK X kws tk ∧ RefA X tk fr
section
variable {X : Cx} {CX : CXT} {k : Nat} {f : Addr} {fd : FuncData} {ps ks : List Str} {sp : Sp} {E : L2.St → XK} {x : Str} {p pos kp : Pos} {e : Expr} {fa : FE} {fr : FA} {F : FD} {kws : List Keyword} {tk : TA} {nm : Option Str}
  {g : List Value → List Value → List Value} {gV : List V → List V → List V}
theorem kw_nil : TrKw X [] fNil := ⟨_, pk_nil, fun W E ρ G σ H Q k x tk R lx lk h => lk [] ρ G [] H (Ex.refl G) R .nil h⟩
theorem kw_cons (ha : TrE X e fa) (hr : TrKw X kws fr) : TrKw X (⟨nm, e, kp⟩ :: kws) (fCons fa fr) := let ⟨_, h1, h2⟩ := hr.ex; ⟨_, pk_cons pe_w h1, ref_cons ha h2⟩
end
end Tr
set_option Elab.async false
set_option linter.all false
set_option maxRecDepth 100000
namespace Tr
open PySem PySem.Spec PyProof.Rows L2 Evl Kc Kz Kx
structure ClsK (P : Program) (w : World) (K : PySem.W.Frag) (mg : Str → Option Value) (base : Heap) (C : Addr) (cn m a b : Str) (lv : Nat) (F : FD) : Prop where
  mgC : mg cn = some (.ref C)
  ex : ∃ (mc : Value) (p g : Addr) (fd : FuncData), ClX.CRead K C mc ∧ ClX.CMet K C mc m p g ∧ FnOk P w K mg base (CXL P w mg) lv g fd [a, b] (spT K 2 F) ∧ ∀ (s : Shared) (u v : Value), BindsTo s fd ⟨[u], [(b, v)]⟩ [(a, u), (b, v)]
section
variable {X : Cx} {CX : CXT} {k : Nat} {C p g : Addr} {fd : FuncData} {mc : Value} {sp : Sp} {E : L2.St → XK} {o e : Expr} {m n1 n2 : Str} {pos apos kp : Pos} {ta : TE} {tk : TA} {pl : Sem Bool}
theorem pe_cmKw (he : PE X o ta) (r : ClX.CRead X.K C mc) (c : ClX.CMet X.K C mc m p g) (F : FnOk X.prog X.w X.K X.mg X.base CX k g fd [n1, n2] sp) (bd : ∀ (s : Shared) (u v : Value), BindsTo s fd ⟨[u], [(n2, v)]⟩ [(n1, u), (n2, v)]) (hr : Room k X.A) (pass : ∀ σ, PassesAt CX X σ (E σ)) (hk : PK X [⟨some n2, e, kp⟩] tk)
    (hall : (backToKw pos (keywordEach [⟨some n2, e, kp⟩] X.env)).all (·.1.isSome) = true := by rfl)
    (hks : (backToKw pos (keywordEach [⟨some n2, e, kp⟩] X.env)).filterMap (·.1) = [n2] := by rfl)
    (plain : ((backTo pos (starEach [] X.env)).any (·.1) || (backToKw pos (keywordEach [⟨some n2, e, kp⟩] X.env)).any (·.1.isNone)) = false := by rfl)
    (ht : eval (.Call (.Attribute o m apos) [] [⟨some n2, e, kp⟩] pos) X.env = (do
      let ov ← eval o X.env
      standAt apos.atName
      let (ff, first) ← holding [ov] (getMethod ov m pl)
      callWith pos ff first (backTo pos (starEach [] X.env)) (backToKw pos (keywordEach [⟨some n2, e, kp⟩] X.env))) := by rfl) :
    PE X (.Call (.Attribute o m apos) [] [⟨some n2, e, kp⟩] pos) (fun σ H Q => ta σ H fun x H1 => x = .ref C ∧ tk σ H1 fun vs H2 => sp (.ref C :: vs) H2 Q (E σ)) := by
  refine ⟨fun pins s σ H Q I h => PySem.W.methodCall_KW (pl := pl) (thn (he.run pins s σ H _ I h) fun u s1 y => ?_) ht⟩
  obtain ⟨x, H1, I1, rx, ex, q⟩ := y
  subst ex
  have eu : u = Value.ref C := rx
  subst eu
  refine ClX.getmethcm_ok I1 r c fun s2 I2 => ?_
  refine PySem.W.callWith_of (P := PySem.W.MethP X.K s1.heap.objs.size g (.ref C)) plain (PySem.W.keeps_M c.fi) (evalArgs_kw2_nil hall (thn (hk.run pos _ s2 σ H1 _ I2 q) fun us s3 y => ?_))
  obtain ⟨vs, H2, I3, rv, want⟩ := y
  have len : vs.length = 1 := by
    have := F.len _ _ _ _ want
    exact Nat.succ.inj this
  obtain ⟨v, rfl⟩ : ∃ v, vs = [v] := by
    match vs, len with
    | [v], _ => exact ⟨v, rfl⟩
  obtain ⟨z, rfl⟩ : ∃ z, us = [z] := by
    have l2 : us.length = 1 := rv.length.symm
    match us, l2 with
    | [z], _ => exact ⟨z, rfl⟩
  have body : wpAny (model X.prog X.w) X.A (call (.ref s1.heap.objs.size) [] [(n2, z)]) (EP X ((s1.heap.objs.size, PySem.W.methodObj (.ref g) (.ref C)) :: pins) σ Q) X.xe s3 := by
    refine wpAny_call (PySem.W.method_call (ClX.pin_at I3) (codeAny_mono (F.run X.A X.stack s3 H2 ⟨[.ref C], [(n2, z)]⟩ [.ref C, z] [.ref C, v] Q (E σ) hr I3.env0 (bd s3 (.ref C) z) (.cons rfl rv) want) fun res s4 post => ?_))
    match res, post with
    | .error er, post => exact pass σ _ H2 s3 er s4 I3 post
    | .ok (.ret _), post => exact I3.after post
    | .ok .next, post => exact post.elim
    | .ok .brk, post => exact post.elim
    | .ok .cont, post => exact post.elim
  refine ⟨⟨ClX.pin_at I3, I3.kIn⟩, ?_⟩
  rw [hks]
  exact thn body fun _ _ z => ClX.unpinE z
end
section
variable {X : Cx} {P : Program} {w : World} {K : PySem.W.Frag} {mg : Str → Option Value} {base : Heap} {C : Addr} {cn m n1 n2 : Str} {lv k : Nat} {F : FD} {e : Expr} {fa : FE} {p pos apos kp : Pos} {pl : Sem Bool}
theorem xe_cmK (d : ClsK P w K mg base C cn m n1 n2 lv F) (j : In X P w K mg base) (hr : Room k X.A) (hk : lv ≤ k) (hg : Gl X cn) (ha : TrE X e fa) (hdb : (cn == ("__debug__" : Str)) = false := by decide)
    (hall : (backToKw pos (keywordEach [⟨some n2, e, kp⟩] X.env)).all (·.1.isSome) = true := by rfl)
    (hks : (backToKw pos (keywordEach [⟨some n2, e, kp⟩] X.env)).filterMap (·.1) = [n2] := by rfl)
    (plain : ((backTo pos (starEach [] X.env)).any (·.1) || (backToKw pos (keywordEach [⟨some n2, e, kp⟩] X.env)).any (·.1.isNone)) = false := by rfl)
    (ht : eval (.Call (.Attribute (.Name cn p) m apos) [] [⟨some n2, e, kp⟩] pos) X.env = (do
      let ov ← eval (.Name cn p) X.env
      standAt apos.atName
      let (ff, first) ← holding [ov] (getMethod ov m pl)
      callWith pos ff first (backTo pos (starEach [] X.env)) (backToKw pos (keywordEach [⟨some n2, e, kp⟩] X.env))) := by rfl) :
    TrE X (.Call (.Attribute (.Name cn p) m apos) [] [⟨some n2, e, kp⟩] pos) (fCM C F (fCons fa fNil)) := fun W E ρ G σ H Q k x tk R lx lk hf pins s I => by
  obtain ⟨rfl, rfl, rfl, rfl, rfl⟩ := j
  obtain ⟨mc, q, g, fd, r, c, ok, b⟩ := d.ex
  obtain ⟨tk2, p1, p2⟩ := (kw_cons (nm := some n2) (kp := kp) ha kw_nil).ex
  refine (pe_cmKw (E := WE W) (pe_glob (v := .ref C) hg d.mgC (show RelV (.ref C) (.ref C) from rfl) hdb) r c ok b (hr.mono hk) (fun σ => passT tk.1 σ) p1 hall hks plain ht).run pins s σ H Q I ⟨rfl, ?_⟩
  exact p2 W E ρ G σ H _ _ x tk R lx (fun as ρ1 G1 vs H1 e1 R1 q1 h1 => ref_call R1 lx (lk.up e1) (.cons ⟨rfl, .inr (.inl ⟨rfl, (show Hold X.K G1 H1 (.raw (.ref C)) (.ref C) from rfl)⟩)⟩ q1) h1) hf
end
section
variable {X : Cx} {P : Program} {w : World} {K : PySem.W.Frag} {mg : Str → Option Value} {base : Heap} {C : Addr} {lv k : Nat} {F : FD} {a b : Expr} {fa fb : FE} {pos : Pos}
theorem xt_eqO (d : EqM P w K mg base C lv F) (j : In X P w K mg base) (hr : Room k X.A) (hk : lv ≤ k) (ha : TrE X a fa) (hb : TrE X b fb) : TrT X (.Compare a [.Eq] [b] pos) (fTest (fEqO C F fa fb)) := by
  obtain ⟨rfl, rfl, rfl, rfl, rfl⟩ := j
  obtain ⟨f, fd, h1, h2, ok, b⟩ := d.ex
  exact .of (pt_cmpR (op_eqI ok (hr.mono hk) h1 h2 b passN) pe_w pe_w (nomark _)) (ref_test (ref_eqO (f := f) (fd := fd) rfl ha hb))
end
end Tr
set_option Elab.async false
set_option linter.all false
set_option maxRecDepth 100000
set_option maxHeartbeats 4000000
namespace KR
open PySem PySem.Spec PyProof.Rows L2 Evl Kc Kz Kx Tr Mg K23 K22 K27 K24 KA KB KI KP
def fb_law_note_of : FS := (sRet (fMeth gJoin (fC (.dat (.str " "))) (fCons (fLc [1, 2] (iSeq lK (fFrz 0)) (gT 2 (gsCons (gN 1) (gsCons (gN 2) gsNil))) fYes (f2 gAdd (f2 gAdd (fVar 1) (fC (.dat (.str ":")))) (fVar 2))) fNil)))
def fb_law_rows_in : FS := (sCons (sSet 1 (fDisp .newl fNil)) (sCons (sFor (iSeq lK (fMeth gSplit (fVar 0) (fCons (fC (.dat (.str " "))) fNil))) (gN 2) (sCons (sSet 3 (fMeth gSplit (fVar 2) (fCons (fC (.dat (.str ":"))) fNil))) (sCons (sIf (fOr (fTest (f2 gNe (fB (g1 gLen) (fCons (fFrz 3) fNil)) (fC (.dat (.int (2)))))) (fOr (fNot (fTest (fCall 1 F_nameA (fCons (f2 gIx (fFrz 3) (fC (.dat (.int (0))))) fNil)))) (fTest (f2 (gIn true) (f2 gIx (fFrz 3) (fC (.dat (.int (1))))) (fDisp .newt (fCons (fC (.dat (.str "mine"))) (fCons (fC (.dat (.str "theirs"))) (fCons (fC (.dat (.str "counter"))) fNil)))))))) (sRet (fC (.dat (.none)))) sNil) (sExpr (fMut 1 mAppend (fCons (fDisp .newt (fCons (f2 gIx (fFrz 3) (fC (.dat (.int (0))))) (fCons (f2 gIx (fFrz 3) (fC (.dat (.int (1))))) fNil))) fNil)))))) (sCons (sAsg (fDisp .newt (fCons (fLc [6, 7] (iSeq lK (fFrz 1)) (gT 2 (gsCons (gN 6) (gsCons (gN 7) gsNil))) fYes (fFrz 6)) (fCons (fLc [6, 7] (iSeq lK (fFrz 1)) (gT 2 (gsCons (gN 6) (gsCons (gN 7) gsNil))) fYes (fFrz 7)) fNil))) (gT 2 (gsCons (gN 4) (gsCons (gN 5) gsNil)))) (sCons (sIf (fTest (f2 gGt (fB (g1 gLen) (fCons (fLc [6] (iSeq lK (fFrz 4)) (gN 6) (fTest (f2 gGt (fCnt (fVar 4) (fVar 6)) (fC (.dat (.int (1)))))) (fFrz 6)) fNil)) (fC (.dat (.int (0)))))) (sRet (fC (.dat (.none)))) sNil) (sRet (fIf (fOr (fTest (f2 gGt (fCnt (fVar 5) (fC (.dat (.str "counter")))) (fC (.dat (.int (4)))))) (fTest (f2 gGt (f2 (gI0 fun i j => .int (i - j)) (fB (g1 gLen) (fCons (fVar 5) fNil)) (fCnt (fVar 5) (fC (.dat (.str "counter"))))) (fC (.dat (.int (12))))))) (fC (.dat (.none))) (fVar 1)))))))
def fb_law_met (C : Addr) (D_InvalidText : Addr) : FS := (sCons (sSet 1 (fDisp .newl (fCons (fC (.dat (.str "other"))) fNil))) (sCons (sTryAs 3 D_InvalidText (sCons (sSet 2 (fCM C (F_readS C D_InvalidText) (fCons (fVar 0) fNil))) (sSet 1 (fIf (fTest (fIsO C (fVar 2))) (fDisp .newl (fCons (fC (.dat (.str "read"))) (fCons (fM0 C (F_sflds C) (fVar 2)) fNil))) (fDisp .newl (fCons (fC (.dat (.str "other"))) fNil))))) (fun a dd => (sCons (sSet 4 (fIsX 3 a D_InvalidText dd false)) (sSet 1 (fIf (fAnd (fTest (fIsX 3 a D_InvalidText dd true)) (fNot (fTest (fVar 4)))) (fDisp .newl (fCons (fC (.dat (.str "line"))) (fCons (fXf 3 a D_InvalidText dd "line") fNil))) (fDisp .newl (fCons (fC (.dat (.str "other"))) fNil))))))) (sRet (fVar 1))))
def fb_law_bent : FS := (sCons (sPar 2 3 (fCons (fCall 2 F_draw (fCons (fVar 0) (fCons (f2 gAdd (fB (g1 gLen) (fCons (fVar 1) fNil)) (fC (.dat (.int (1))))) fNil))) (fCons (fCall 2 F_draw (fCons (fVar 0) (fCons (fC (.dat (.int (5)))) fNil))) fNil))) (sCons (sSet 4 (f2 gIx (fC (.dat (.str "az: ,AZ\n0"))) (fCall 2 F_draw (fCons (fVar 0) (fCons (fC (.dat (.int (9)))) fNil))))) (sCons (sIf (fTest (f2 gEq (fVar 3) (fC (.dat (.int (0)))))) (sRet (f2 gAdd (f2 gAdd (fSl (fVar 1) oNone (oSome (fVar 2))) (fVar 4)) (fSl (fVar 1) (oSome (fVar 2)) oNone))) sNil) (sCons (sIf (fTest (f2 gEq (fVar 3) (fC (.dat (.int (1)))))) (sRet (f2 gAdd (fSl (fVar 1) oNone (oSome (fVar 2))) (fSl (fVar 1) (oSome (f2 gAdd (fVar 2) (fC (.dat (.int (1)))))) oNone))) sNil) (sCons (sSet 5 (fMeth gSplit (fVar 1) (fCons (fC (.dat (.str " "))) fNil))) (sCons (sSet 6 (fCall 2 F_draw (fCons (fVar 0) (fCons (fB (g1 gLen) (fCons (fVar 5) fNil)) fNil)))) (sCons (sSet 7 (fDisp .newl (fCons (fDisp .newl fNil) (fCons (f2 gMul (fSl (fVar 5) (oSome (fVar 6)) (oSome (f2 gAdd (fVar 6) (fC (.dat (.int (1))))))) (fC (.dat (.int (2))))) (fCons (fDisp .newl (fCons (fC (.dat (.str "x:count"))) fNil)) (fCons (fDisp .newl (fCons (fC (.dat (.str "mine"))) fNil)) (fCons (fDisp .newl (fCons (fUp (f2 gIx (fVar 5) (fVar 6))) fNil)) (fCons (fDisp .newl (fCons (f2 gAdd (f2 gIx (fVar 5) (fVar 6)) (fC (.dat (.str ":mine")))) fNil)) fNil)))))))) (sCons (sSet 7 (f2 gAdd (fVar 7) (fDisp .newl (fCons (fDisp .newl (fCons (fC (.dat (.str "counter:mine"))) fNil)) (fCons (fDisp .newl (fCons (fC (.dat (.str ""))) fNil)) (fCons (fDisp .newl (fCons (fC (.dat (.str "a:counter"))) (fCons (fC (.dat (.str "b:counter"))) (fCons (fC (.dat (.str "c:counter"))) (fCons (fC (.dat (.str "d:counter"))) fNil))))) fNil)))))) (sRet (fMeth gJoin (fC (.dat (.str " "))) (fCons (f2 gAdd (f2 gAdd (fSl (fVar 5) oNone (oSome (fVar 6))) (f2 gIx (fVar 7) (fCall 2 F_draw (fCons (fVar 0) (fCons (fC (.dat (.int (9)))) fNil))))) (fSl (fVar 5) (oSome (f2 gAdd (fVar 6) (f2 (gI (fun _ j => 0 < j) fun i j => .int (i % j)) (fVar 3) (fC (.dat (.int (2))))))) oNone)) fNil)))))))))))
def fb_law (C : Addr) (D_InvalidSchema : Addr) (D_InvalidText : Addr) : FS := (sCons (sFor (iR1 (fCons (fB (g2 gMax2) (fCons (fC (.dat (.int (1)))) (fCons (fB (g2 gMin2) (fCons (fC (.dat (.int (6)))) (fCons (fScrLen (fVar 0)) fNil))) fNil))) fNil)) (gN 1) (sCons (sSet 2 (fCall 2 F_pot (fCons (fVar 0) (fCons (fVar 1) fNil)))) (sCons (sSet 3 (fCall 3 F_fields (fCons (fVar 2) (fCons (f2 gAdd (fC (.dat (.int (1)))) (fCall 2 F_draw (fCons (fVar 2) (fCons (fC (.dat (.int (12)))) fNil)))) (fCons (fCall 2 F_draw (fCons (fVar 2) (fCons (fC (.dat (.int (5)))) fNil))) fNil))))) (sCons (sPar 4 5 (fCons (fMkX C "rows" 1 (F_initX D_InvalidSchema) (fCons (fFrz 3) fNil)) (fCons (fCall 1 F_noteOf (fCons (fFrz 3) fNil)) fNil))) (sCons (sIf (fOr (fTest (f2 gNeZ (fM0 C (F_text C) (fVar 4)) (fVar 5))) (fNot (fTest (fEqO C (F_same C) (fCM C (F_readS C D_InvalidText) (fCons (fVar 5) fNil)) (fVar 4))))) (sRet (fC (.dat (.bool false)))) sNil) (sCons (sFor (iR1 (fCons (fC (.dat (.int (6)))) fNil)) (gN 6) (sCons (sSet 7 (fCall 2 F_bent10 (fCons (fVar 2) (fCons (fVar 5) fNil)))) (sCons (sIf (fTest (f2 gEq (fCall 2 F_draw (fCons (fVar 2) (fCons (fC (.dat (.int (3)))) fNil))) (fC (.dat (.int (0)))))) (sSet 7 (fCall 2 F_bent10 (fCons (fVar 2) (fCons (fVar 7) fNil)))) sNil) (sCons (sSet 8 (fCall 1 F_rowsIn (fCons (fVar 7) fNil))) (sIf (fTest (f2 (gEqT true) (fB (g1 gReprX) (fCons (fCall 1 (F_met10 C) (fCons (fVar 7) fNil)) fNil)) (fB (g1 gReprX) (fCons (fIf (fTest (f2 (gIsN false) (fVar 8) (fC (.dat (.none))))) (fDisp .newl (fCons (fC (.dat (.str "line"))) (fCons (fC (.dat (.int (1)))) fNil))) (fDisp .newl (fCons (fC (.dat (.str "read"))) (fCons (fFrz 8) fNil)))) fNil)))) (sRet (fC (.dat (.bool false)))) sNil))))) (sCons (sSet 9 (fCall 2 F_words25 (fCons (fVar 2) (fCons (fC (.dat (.int (13)))) fNil)))) (sCons (sSet 10 (fLc [12] (iSeq lK (fFrz 9)) (gN 12) fYes (f2 gAdd (f2 gAdd (fVar 12) (fC (.dat (.str ":")))) (f2 gIx (fDisp .newl (fCons (fC (.dat (.str "mine"))) (fCons (fC (.dat (.str "theirs"))) fNil))) (fCall 2 F_draw (fCons (fVar 2) (fCons (fC (.dat (.int (2)))) fNil))))))) (sCons (sIf (fOr (fTest (f2 gNeZ (fM0 C (F_names C) (fCM C (F_readS C D_InvalidText) (fCons (fMeth gJoin (fC (.dat (.str " "))) (fCons (fSl (fVar 10) oNone (oSome (fC (.dat (.int (12)))))) fNil)) fNil))) (fSl (fVar 9) oNone (oSome (fC (.dat (.int (12)))))))) (fTest (f2 gNeZ (fCall 1 (F_met10 C) (fCons (fMeth gJoin (fC (.dat (.str " "))) (fCons (fVar 10) fNil)) fNil)) (fDisp .newl (fCons (fC (.dat (.str "line"))) (fCons (fC (.dat (.int (1)))) fNil)))))) (sRet (fC (.dat (.bool false)))) sNil) (sCons (sForA 11 (fCons (fC (.dat (.none))) (fCons (fC (.dat (.int (0)))) (fCons (fC (.dat (.bool true))) (fCons (fDisp .newl (fCons (fFrz 5) fNil)) (fCons (fDisp .newt (fCons (fFrz 5) fNil)) (fCons (fD0) (fCons (fFrz 3) (fCons (fFrz 4) fNil)))))))) (sIf (fTest (f2 gNeZ (fCall 1 (F_met10 C) (fCons (fVar 11) fNil)) (fDisp .newl (fCons (fC (.dat (.str "line"))) (fCons (fC (.dat (.int (0)))) fNil))))) (sRet (fC (.dat (.bool false)))) sNil)) (sIf (fOr (fTest (f2 gNeZ (fM0 C (F_text C) (fVar 4)) (fVar 5))) (fTest (f2 gNeZ (fM0 C (F_text C) (fMkX C "rows" 1 (F_initX D_InvalidSchema) (fCons (fB (g1 gTuple) (fCons (fFrz 3) fNil)) fNil))) (fVar 5)))) (sRet (fC (.dat (.bool false)))) sNil))))))))))) (sRet (fC (.dat (.bool true)))))
def fb_stext (C : Addr) : FS := (sRet (fMeth gJoin (fC (.dat (.str " "))) (fCons (fLc [1, 2] (iSeq tK (fFld C "rows" (fVar 0))) (gT 2 (gsCons (gN 1) (gsCons (gN 2) gsNil))) fYes (fFs ":" (fVar 1) (fVar 2))) fNil)))
def fb_snames (C : Addr) : FS := (sRet (fLc [1, 2] (iSeq tK (fFld C "rows" (fVar 0))) (gT 2 (gsCons (gN 1) (gsCons (gN 2) gsNil))) fYes (fFrz 1)))
def fb_sread (C : Addr) (D_InvalidSchema : Addr) (D_InvalidText : Addr) : FS := (sCons (sIf (fNot (fTest (fIsT "str" C (fVar 1)))) (sRaise1 D_InvalidText "line" (fCons (fC (.dat (.int (0)))) fNil)) sNil) (sCons (sSet 2 (fLc [3] (iSeq lK (fMeth gSplit (fVar 1) (fCons (fC (.dat (.str " "))) fNil))) (gN 3) fYes (fB (g1 gTuple) (fCons (fMeth gSplit (fVar 3) (fCons (fC (.dat (.str ":"))) fNil)) fNil)))) (sTryR D_InvalidSchema (fun z => z = D_InvalidText) (sRet (fMkV 0 C "rows" 1 (F_initX D_InvalidSchema) (fCons (fFrz 2) fNil))) (sRaise1 D_InvalidText "line" (fCons (fC (.dat (.int (1)))) fNil)))))
end KR
set_option Elab.async false
set_option linter.all false
set_option maxRecDepth 100000
namespace K10
open PySem PySem.Spec PyProof.Rows L2 Evl Kc Kz Kx Tr Mg K23 K22 K27 K24 KA KB KI KP KR
abbrev fb_law_words := @K23.fb_law_words
abbrev fb_law_met := @KR.fb_law_met
abbrev fb_law_bent := @KR.fb_law_bent
abbrev fb_law := @KR.fb_law
abbrev fb_is_name := @K23.fb_is_name
abbrev fb_is_field := @KI.fb_is_field
abbrev fb_field_problem := @KI.fb_field_problem
abbrev fb_init := @KI.fb_init
abbrev fb_stext := @KP.fb_stext
abbrev fb_sread := @KR.fb_sread
end K10
set_option Elab.async false
set_option linter.all false
set_option maxRecDepth 100000
set_option maxHeartbeats 4000000
namespace K10
open PySem PySem.Spec PyProof.Rows L2 Evl Kc Kz Kx Tr Mg K23 K22 K27 K24 KA KB KI KP KR
def topS (i : Nat) : Stmt := PySem.Challenge.pw_mergereach_k10_schema_texts.main.body.getD i (.Pass ⟨0, 0, 0, 0⟩)
end K10
set_option Elab.async false
set_option linter.all false
set_option maxRecDepth 100000
set_option maxHeartbeats 4000000
namespace K10
open PySem PySem.Spec PyProof.Rows L2 Evl Kc Kz Kx Tr Mg K23 K22 K27 K24 KA KB KI KP KR
abbrev s_law_word : Stmt := topS 24
theorem sc_law_word : FnScope ["_law_pot_here", "_law_taken", "_law_letters", "_law_word_here", "_law_k", "_law_letter"] ["_law_pot_here", "_law_taken"] (defScope s_law_word) := ⟨rfl, rfl, rfl, by decide +kernel, rfl, by decide +kernel, by decide +kernel⟩
theorem tr_law_word {P : Program} {w : World} {K : PySem.W.Frag} {mg : Str → Option Value} {base : Heap} {f : Addr} (T : Blt mg) (d__law_draw : DefO P w K mg base "_law_draw" ["_law_pot_here", "_law_many"] 1 F_draw) :
    ∀ (cdv : Value) (A : Around) (outer : List Env) (s : Shared) (H : Hp) (E : XK), Room 1 (A.deeper (envOfC "_law_word" (defScope s_law_word) s.heap.objs.size f cdv)) → TrB (cxOf (CXL P w mg) P w K mg base ["_law_pot_here", "_law_taken", "_law_letters", "_law_word_here", "_law_k", "_law_letter"] "_law_word" (defScope s_law_word) f cdv A outer s H E) (defBody s_law_word) (fb_law_word) := by
  exact fun cdv A outer s H E hr => (TbW.run (tw_cons (ts_set 2 xe_str sc_law_word.nd rfl (by first | exact .inl rfl | exact .inr rfl)) (tw_cons (ts_set 3 (xe_join xe_str (TaW.run (xw_cons (xe_lc (own := [("_law_k", 4)]) (ti_range1 (by rfl) T.range (TaW.run (xw_cons (xe_at (fun _ _ => rfl) (xe_lstW (xw_cons xe_int (xw_cons xe_int (xw_cons xe_int (xw_cons xe_int xw_nil))))) (xe_callD d__law_draw ⟨rfl, rfl, rfl, rfl, rfl⟩ hr (by decide) (by rfl) (TaW.run (xw_cons (xe_var 0 (pv 0)) (xw_cons xe_int xw_nil))) (he := star_of rfl) (hpl := plain_of rfl))) xw_nil))) rfl sc_law_word.nd (blkOk_by (N := ["_law_pot_here", "_law_taken", "_law_letters", "_law_word_here", "_law_k", "_law_letter"]) (sc := defScope s_law_word) (by decide +kernel)) (fun _ _ _ _ _ => (tg_name 4 sc_law_word.nd rfl (by first | exact .inl rfl | exact .inr rfl))) (fun _ _ _ _ _ => (xe_at (fun _ _ => rfl) (xe_var 2 (pv 2)) (xe_callD d__law_draw ⟨rfl, rfl, rfl, rfl, rfl⟩ hr (by decide) (by rfl) (TaW.run (xw_cons (xe_var 0 (pv 0)) (xw_cons xe_int xw_nil))) (he := star_of rfl) (hpl := plain_of rfl))))) xw_nil))) sc_law_word.nd rfl (by first | exact .inl rfl | exact .inr rfl)) (tw_cons (ts_if (xt_in hr (by with_unfolding_all rfl) (xe_var 3 (pv 3)) (xe_var 1 (pv 1))) (TbW.run (tw_one (ts_set 3 (xe_at (fun _ _ => rfl) (xe_lcif (own := [("_law_letter", 5)]) (ti_str (xe_frz 2 (pv 2))) rfl sc_law_word.nd (blkOk_by (N := ["_law_pot_here", "_law_taken", "_law_letters", "_law_word_here", "_law_k", "_law_letter"]) (sc := defScope s_law_word) (by decide +kernel)) (fun _ _ _ _ _ => (tg_name 5 sc_law_word.nd rfl (by first | exact .inl rfl | exact .inr rfl))) (fun _ _ _ _ _ => (xt_notIn hr (by with_unfolding_all rfl) (xe_var 5 (pv 5)) (xe_var 1 (pv 1)))) (fun _ _ _ _ _ => (xe_frz 5 (pv 5)))) xe_int) sc_law_word.nd rfl (by first | exact .inl rfl | exact .inr rfl)))) tb_nil) (tw_one (ts_ret (xe_var 3 (pv 3))))))))
end K10
set_option Elab.async false
set_option linter.all false
set_option maxRecDepth 100000
set_option maxHeartbeats 4000000
namespace K10
open PySem PySem.Spec PyProof.Rows L2 Evl Kc Kz Kx Tr Mg K23 K22 K27 K24 KA KB KI KP KR
abbrev s_law_words : Stmt := topS 25
theorem sc_law_words : FnScope ["_law_pot_here", "_law_many", "_law_found", "_law_k"] ["_law_pot_here", "_law_many"] (defScope s_law_words) := ⟨rfl, rfl, rfl, by decide +kernel, rfl, by decide +kernel, by decide +kernel⟩
theorem tr_law_words {P : Program} {w : World} {K : PySem.W.Frag} {mg : Str → Option Value} {base : Heap} {f : Addr} (T : Blt mg) (d__law_word : DefO P w K mg base "_law_word" ["_law_pot_here", "_law_taken"] 2 F_word) :
    ∀ (cdv : Value) (A : Around) (outer : List Env) (s : Shared) (H : Hp) (E : XK), Room 2 (A.deeper (envOfC "_law_words" (defScope s_law_words) s.heap.objs.size f cdv)) → TrB (cxOf (CXL P w mg) P w K mg base ["_law_pot_here", "_law_many", "_law_found", "_law_k"] "_law_words" (defScope s_law_words) f cdv A outer s H E) (defBody s_law_words) (fb_law_words) := by
  exact fun cdv A outer s H E hr => (TbW.run (tw_cons (ts_set 2 (xe_lstW xw_nil) sc_law_words.nd rfl (by first | exact .inl rfl | exact .inr rfl)) (tw_cons (ts_for (ti_range1 (by rfl) T.range (TaW.run (xw_cons (xe_var 1 (pv 1)) xw_nil))) (tg_name 3 sc_law_words.nd rfl (by first | exact .inl rfl | exact .inr rfl)) (TbW.run (tw_one (ts_expr (xe_append 2 (pv 2) (TaW.run (xw_cons (xe_callD d__law_word ⟨rfl, rfl, rfl, rfl, rfl⟩ hr (by decide) (by rfl) (TaW.run (xw_cons (xe_var 0 (pv 0)) (xw_cons (xe_var 2 (pv 2)) xw_nil))) (he := star_of rfl) (hpl := plain_of rfl)) xw_nil)))))) (passes_of rfl) rfl) (tw_one (ts_ret (xe_var 2 (pv 2)))))))
end K10
set_option Elab.async false
set_option linter.all false
set_option maxRecDepth 100000
set_option maxHeartbeats 4000000
namespace K10
open PySem PySem.Spec PyProof.Rows L2 Evl Kc Kz Kx Tr Mg K23 K22 K27 K24 KA KB KI KP KR
abbrev s_law_mixed : Stmt := topS 23
theorem sc_law_mixed : FnScope ["_law_pot_here", "_law_given", "_law_left", "_law_k"] ["_law_pot_here", "_law_given"] (defScope s_law_mixed) := ⟨rfl, rfl, rfl, by decide +kernel, rfl, by decide +kernel, by decide +kernel⟩
theorem tr_law_mixed {P : Program} {w : World} {K : PySem.W.Frag} {mg : Str → Option Value} {base : Heap} {f : Addr} (T : Blt mg) (d__law_draw : DefO P w K mg base "_law_draw" ["_law_pot_here", "_law_many"] 1 F_draw) :
    ∀ (cdv : Value) (A : Around) (outer : List Env) (s : Shared) (H : Hp) (E : XK), Room 1 (A.deeper (envOfC "_law_mixed" (defScope s_law_mixed) s.heap.objs.size f cdv)) → TrB (cxOf (CXL P w mg) P w K mg base ["_law_pot_here", "_law_given", "_law_left", "_law_k"] "_law_mixed" (defScope s_law_mixed) f cdv A outer s H E) (defBody s_law_mixed) (fb_law_mixed) := by
  exact fun cdv A outer s H E hr => (TbW.run (tw_cons (ts_set 2 (xe_list (by rfl) T.list rfl (TaW.run (xw_cons (xe_var 1 (pv 1)) xw_nil))) sc_law_mixed.nd rfl (by first | exact .inl rfl | exact .inr rfl)) (tw_one (ts_ret (xe_lc (own := [("_law_k", 3)]) (ti_range1 (by rfl) T.range (TaW.run (xw_cons (xe_len (by rfl) T.len (TaW.run (xw_cons (xe_var 1 (pv 1)) xw_nil))) xw_nil))) rfl sc_law_mixed.nd (blkOk_by (N := ["_law_pot_here", "_law_given", "_law_left", "_law_k"]) (sc := defScope s_law_mixed) (by decide +kernel)) (fun _ _ _ _ _ => (tg_name 3 sc_law_mixed.nd rfl (by first | exact .inl rfl | exact .inr rfl))) (fun _ _ _ _ _ => (xe_popAt 2 (pv 2) (TaW.run (xw_cons (xe_callD d__law_draw ⟨rfl, rfl, rfl, rfl, rfl⟩ hr (by decide) (by rfl) (TaW.run (xw_cons (xe_var 0 (pv 0)) (xw_cons (xe_len (by rfl) T.len (TaW.run (xw_cons (xe_var 2 (pv 2)) xw_nil))) xw_nil))) (he := star_of rfl) (hpl := plain_of rfl)) xw_nil)))))))))
end K10
set_option Elab.async false
set_option linter.all false
set_option maxRecDepth 100000
set_option maxHeartbeats 4000000
namespace K10
open PySem PySem.Spec PyProof.Rows L2 Evl Kc Kz Kx Tr Mg K23 K22 K27 K24 KA KB KI KP KR
abbrev s_law_fields : Stmt := topS 26
theorem sc_law_fields : FnScope ["_law_pot_here", "_law_marks", "_law_sums", "_law_kinds", "_law_k"] ["_law_pot_here", "_law_marks", "_law_sums"] (defScope s_law_fields) := ⟨rfl, rfl, rfl, by decide +kernel, rfl, by decide +kernel, by decide +kernel⟩
theorem tr_law_fields {P : Program} {w : World} {K : PySem.W.Frag} {mg : Str → Option Value} {base : Heap} {f : Addr} (T : Blt mg) (d__law_draw : DefO P w K mg base "_law_draw" ["_law_pot_here", "_law_many"] 1 F_draw) (d__law_mixed : DefO P w K mg base "_law_mixed" ["_law_pot_here", "_law_given"] 2 F_mixed) (d__law_words_W : DefO P w K mg base "_law_words" ["_law_pot_here", "_law_many"] 3 F_words) :
    ∀ (cdv : Value) (A : Around) (outer : List Env) (s : Shared) (H : Hp) (E : XK), Room 3 (A.deeper (envOfC "_law_fields" (defScope s_law_fields) s.heap.objs.size f cdv)) → TrB (cxOf (CXL P w mg) P w K mg base ["_law_pot_here", "_law_marks", "_law_sums", "_law_kinds", "_law_k"] "_law_fields" (defScope s_law_fields) f cdv A outer s H E) (defBody s_law_fields) (fb_law_fields) := by
  exact fun cdv A outer s H E hr => (TbW.run (tw_cons (ts_set 3 (xe_add (xe_lc (own := [("_law_k", 4)]) (ti_range1 (by rfl) T.range (TaW.run (xw_cons (xe_var 1 (pv 1)) xw_nil))) rfl sc_law_fields.nd (blkOk_by (N := ["_law_pot_here", "_law_marks", "_law_sums", "_law_kinds", "_law_k"]) (sc := defScope s_law_fields) (by decide +kernel)) (fun _ _ _ _ _ => (tg_name 4 sc_law_fields.nd rfl (by first | exact .inl rfl | exact .inr rfl))) (fun _ _ _ _ _ => (xe_at (fun _ _ => rfl) (xe_lstW (xw_cons xe_str (xw_cons xe_str xw_nil))) (xe_callD d__law_draw ⟨rfl, rfl, rfl, rfl, rfl⟩ hr (by decide) (by rfl) (TaW.run (xw_cons (xe_var 0 (pv 0)) (xw_cons xe_int xw_nil))) (he := star_of rfl) (hpl := plain_of rfl))))) (xe_mul (xe_lstW (xw_cons xe_str xw_nil)) (xe_var 2 (pv 2)))) sc_law_fields.nd rfl (by first | exact .inl rfl | exact .inr rfl)) (tw_one (ts_ret (xe_listZip rfl (by rfl) T.list (by rfl) T.zip (TaW.run (xw_cons (xe_callD d__law_words_W ⟨rfl, rfl, rfl, rfl, rfl⟩ hr (by decide) (by rfl) (TaW.run (xw_cons (xe_var 0 (pv 0)) (xw_cons (xe_add (xe_var 1 (pv 1)) (xe_var 2 (pv 2))) xw_nil))) (he := star_of rfl) (hpl := plain_of rfl)) (xw_cons (xe_callD d__law_mixed ⟨rfl, rfl, rfl, rfl, rfl⟩ hr (by decide) (by rfl) (TaW.run (xw_cons (xe_var 0 (pv 0)) (xw_cons (xe_var 3 (pv 3)) xw_nil))) (he := star_of rfl) (hpl := plain_of rfl)) xw_nil))))))))
end K10
set_option Elab.async false
set_option linter.all false
set_option maxRecDepth 100000
set_option maxHeartbeats 4000000
namespace K10
open PySem PySem.Spec PyProof.Rows L2 Evl Kc Kz Kx Tr Mg K23 K22 K27 K24 KA KB KI KP KR
abbrev s_law_is_word : Stmt := topS 27
theorem sc_law_is_word : FnScope ["_law_item", "_law_sign"] ["_law_item"] (defScope s_law_is_word) := ⟨rfl, rfl, rfl, by decide +kernel, rfl, by decide +kernel, by decide +kernel⟩
theorem tr_law_is_word {P : Program} {w : World} {K : PySem.W.Frag} {mg : Str → Option Value} {base : Heap} {f : Addr} (T : Blt mg) :
    ∀ (cdv : Value) (A : Around) (outer : List Env) (s : Shared) (H : Hp) (E : XK), Room 0 (A.deeper (envOfC "_law_is_word" (defScope s_law_is_word) s.heap.objs.size f cdv)) → TrB (cxOf (CXL P w mg) P w K mg base ["_law_item", "_law_sign"] "_law_is_word" (defScope s_law_is_word) f cdv A outer s H E) (defBody s_law_is_word) (fb_law_is_word) := by
  exact fun cdv A outer s H E hr => (TbW.run (tw_cons (ts_if (TrW.t (xw_or (xt_not (xt_val (xe_isi (by rfl) T.isinstance (by decide +kernel) (pe_bltn (v := .ty "str") (by rfl) T.str (by decide +kernel) rfl) (xe_var 0 (pv 0))))) (xw_or1 (xt_not (xt_ch op_le op_le xe_int (xe_len (by rfl) T.len (TaW.run (xw_cons (xe_var 0 (pv 0)) xw_nil))) xe_int))))) (TbW.run (tw_one (ts_ret xe_bl))) tb_nil) (tw_one (ts_ret (xe_all (by rfl) T.all rfl (TaW.run (xw_cons (xe_lc (own := [("_law_sign", 1)]) (ti_str (xe_frz 0 (pv 0))) rfl sc_law_is_word.nd (blkOk_by (N := ["_law_item", "_law_sign"]) (sc := defScope s_law_is_word) (by decide +kernel)) (fun _ _ _ _ _ => (tg_name 1 sc_law_is_word.nd rfl (by first | exact .inl rfl | exact .inr rfl))) (fun _ _ _ _ _ => (xe_in hr (by with_unfolding_all rfl) (xe_var 1 (pv 1)) xe_str))) xw_nil)))))))
end K10
set_option Elab.async false
set_option linter.all false
set_option maxRecDepth 100000
set_option maxHeartbeats 4000000
namespace K10
open PySem PySem.Spec PyProof.Rows L2 Evl Kc Kz Kx Tr Mg K23 K22 K27 K24 KA KB KI KP KR
abbrev s_law_note_of : Stmt := topS 28
theorem sc_law_note_of : FnScope ["_law_rows", "_law_name", "_law_kind"] ["_law_rows"] (defScope s_law_note_of) := ⟨rfl, rfl, rfl, by decide +kernel, rfl, by decide +kernel, by decide +kernel⟩
theorem tr_law_note_of {P : Program} {w : World} {K : PySem.W.Frag} {mg : Str → Option Value} {base : Heap} {f : Addr} (T : Blt mg) :
    ∀ (cdv : Value) (A : Around) (outer : List Env) (s : Shared) (H : Hp) (E : XK), Room 0 (A.deeper (envOfC "_law_note_of" (defScope s_law_note_of) s.heap.objs.size f cdv)) → TrB (cxOf (CXL P w mg) P w K mg base ["_law_rows", "_law_name", "_law_kind"] "_law_note_of" (defScope s_law_note_of) f cdv A outer s H E) (defBody s_law_note_of) (fb_law_note_of) := by
  exact fun cdv A outer s H E hr => (TbW.run (tw_one (ts_ret (xe_join xe_str (TaW.run (xw_cons (xe_lc (own := [("_law_name", 1), ("_law_kind", 2)]) (ti_list (xe_frz 0 (pv 0))) rfl sc_law_note_of.nd (blkOk_by (N := ["_law_rows", "_law_name", "_law_kind"]) (sc := defScope s_law_note_of) (by decide +kernel)) (fun _ _ _ _ _ => (tg_tup (tgs_cons (tg_name 1 sc_law_note_of.nd rfl (by first | exact .inl rfl | exact .inr rfl)) (tgs_cons (tg_name 2 sc_law_note_of.nd rfl (by first | exact .inl rfl | exact .inr rfl)) tgs_nil)) rfl)) (fun _ _ _ _ _ => (xe_add (xe_add (xe_var 1 (pv 1)) xe_str) (xe_var 2 (pv 2))))) xw_nil))))))
end K10
set_option Elab.async false
set_option linter.all false
set_option maxRecDepth 100000
set_option maxHeartbeats 4000000
namespace K10
open PySem PySem.Spec PyProof.Rows L2 Evl Kc Kz Kx Tr Mg K23 K22 K27 K24 KA KB KI KP KR
abbrev s_law_rows_in : Stmt := topS 29
theorem sc_law_rows_in : FnScope ["_law_note", "_law_found", "_law_word_here", "_law_parts", "_law_names", "_law_kinds", "_law_name", "_law_kind"] ["_law_note"] (defScope s_law_rows_in) := ⟨rfl, rfl, rfl, by decide +kernel, rfl, by decide +kernel, by decide +kernel⟩
theorem tr_law_rows_in {P : Program} {w : World} {K : PySem.W.Frag} {mg : Str → Option Value} {base : Heap} {f : Addr} (T : Blt mg) (d__law_is_word : DefO P w K mg base "_law_is_word" ["_law_item"] 1 F_nameA) :
    ∀ (cdv : Value) (A : Around) (outer : List Env) (s : Shared) (H : Hp) (E : XK), Room 1 (A.deeper (envOfC "_law_rows_in" (defScope s_law_rows_in) s.heap.objs.size f cdv)) → TrB (cxOf (CXL P w mg) P w K mg base ["_law_note", "_law_found", "_law_word_here", "_law_parts", "_law_names", "_law_kinds", "_law_name", "_law_kind"] "_law_rows_in" (defScope s_law_rows_in) f cdv A outer s H E) (defBody s_law_rows_in) (fb_law_rows_in) := by
  exact fun cdv A outer s H E hr => (TbW.run (tw_cons (ts_set 1 (xe_lstW xw_nil) sc_law_rows_in.nd rfl (by first | exact .inl rfl | exact .inr rfl)) (tw_cons (ts_for (ti_list (xe_split (xe_var 0 (pv 0)) (TaW.run (xw_cons xe_str xw_nil)))) (tg_name 2 sc_law_rows_in.nd rfl (by first | exact .inl rfl | exact .inr rfl)) (TbW.run (tw_cons (ts_set 3 (xe_split (xe_var 2 (pv 2)) (TaW.run (xw_cons xe_str xw_nil))) sc_law_rows_in.nd rfl (by first | exact .inl rfl | exact .inr rfl)) (tw_cons (ts_if (TrW.t (xw_or (xt_ne hr (xe_len (by rfl) T.len (TaW.run (xw_cons (xe_frz 3 (pv 3)) xw_nil))) xe_int) (xw_or (xt_not (xt_val (xe_callD d__law_is_word ⟨rfl, rfl, rfl, rfl, rfl⟩ hr (by decide) (by rfl) (TaW.run (xw_cons (xe_at (fun _ _ => rfl) (xe_frz 3 (pv 3)) xe_int) xw_nil)) (he := star_of rfl) (hpl := plain_of rfl)))) (xw_or1 (xt_notIn hr (by with_unfolding_all rfl) (xe_at (fun _ _ => rfl) (xe_frz 3 (pv 3)) xe_int) (xe_tupW (xw_cons xe_str (xw_cons xe_str (xw_cons xe_str xw_nil))))))))) (TbW.run (tw_one (ts_ret xe_non))) tb_nil) (tw_one (ts_expr (xe_append 1 (pv 1) (TaW.run (xv_cons (xe_tupV (xw_cons (xe_at (fun _ _ => rfl) (xe_frz 3 (pv 3)) xe_int) (xw_cons (xe_at (fun _ _ => rfl) (xe_frz 3 (pv 3)) xe_int) xw_nil))) xw_nil)))))))) (passes_of rfl) rfl) (tw_cons (ts_asg (xe_tupW (xw_cons (xe_lc (own := [("_law_name", 6), ("_law_kind", 7)]) (ti_list (xe_frz 1 (pv 1))) rfl sc_law_rows_in.nd (blkOk_by (N := ["_law_note", "_law_found", "_law_word_here", "_law_parts", "_law_names", "_law_kinds", "_law_name", "_law_kind"]) (sc := defScope s_law_rows_in) (by decide +kernel)) (fun _ _ _ _ _ => (tg_tup (tgs_cons (tg_name 6 sc_law_rows_in.nd rfl (by first | exact .inl rfl | exact .inr rfl)) (tgs_cons (tg_name 7 sc_law_rows_in.nd rfl (by first | exact .inl rfl | exact .inr rfl)) tgs_nil)) rfl)) (fun _ _ _ _ _ => (xe_frz 6 (pv 6)))) (xw_cons (xe_lc (own := [("_law_name", 6), ("_law_kind", 7)]) (ti_list (xe_frz 1 (pv 1))) rfl sc_law_rows_in.nd (blkOk_by (N := ["_law_note", "_law_found", "_law_word_here", "_law_parts", "_law_names", "_law_kinds", "_law_name", "_law_kind"]) (sc := defScope s_law_rows_in) (by decide +kernel)) (fun _ _ _ _ _ => (tg_tup (tgs_cons (tg_name 6 sc_law_rows_in.nd rfl (by first | exact .inl rfl | exact .inr rfl)) (tgs_cons (tg_name 7 sc_law_rows_in.nd rfl (by first | exact .inl rfl | exact .inr rfl)) tgs_nil)) rfl)) (fun _ _ _ _ _ => (xe_frz 7 (pv 7)))) xw_nil))) (tg_tup (tgs_cons (tg_name 4 sc_law_rows_in.nd rfl (by first | exact .inl rfl | exact .inr rfl)) (tgs_cons (tg_name 5 sc_law_rows_in.nd rfl (by first | exact .inl rfl | exact .inr rfl)) tgs_nil)) rfl)) (tw_cons (ts_if (xt_gt (xe_len (by rfl) T.len (TaW.run (xw_cons (xe_lcif (own := [("_law_name", 6)]) (ti_list (xe_frz 4 (pv 4))) rfl sc_law_rows_in.nd (blkOk_by (N := ["_law_note", "_law_found", "_law_word_here", "_law_parts", "_law_names", "_law_kinds", "_law_name", "_law_kind"]) (sc := defScope s_law_rows_in) (by decide +kernel)) (fun _ _ _ _ _ => (tg_name 6 sc_law_rows_in.nd rfl (by first | exact .inl rfl | exact .inr rfl))) (fun _ _ _ _ _ => (xt_gt (xe_countL (xe_var 4 (pv 4)) (xe_var 6 (pv 6))) xe_int)) (fun _ _ _ _ _ => (xe_frz 6 (pv 6)))) xw_nil))) xe_int) (TbW.run (tw_one (ts_ret xe_non))) tb_nil) (tw_one (ts_ret (xe_if (TrW.t (xw_or (xt_gt (xe_countL (xe_var 5 (pv 5)) xe_str) xe_int) (xw_or1 (xt_gt (xe_sub (xe_len (by rfl) T.len (TaW.run (xw_cons (xe_var 5 (pv 5)) xw_nil))) (xe_countL (xe_var 5 (pv 5)) xe_str)) xe_int)))) xe_non (xe_var 1 (pv 1))))))))))
end K10
set_option Elab.async false
set_option linter.all false
set_option maxRecDepth 100000
set_option maxHeartbeats 4000000
namespace K10
open PySem PySem.Spec PyProof.Rows L2 Evl Kc Kz Kx Tr Mg K23 K22 K27 K24 KA KB KI KP KR
abbrev s_law_met : Stmt := topS 30
theorem sc_law_met : FnScope ["_law_note", "_law_told", "_law_made", "e", "_law_others"] ["_law_note"] (defScope s_law_met) := ⟨rfl, rfl, rfl, by decide +kernel, rfl, by decide +kernel, by decide +kernel⟩
theorem tr_law_met {P : Program} {w : World} {K : PySem.W.Frag} {mg : Str → Option Value} {base : Heap} {f : Addr} {D_InvalidCommand : Addr} {D_InvalidSchema : Addr} {D_InvalidText : Addr} {D_InvalidVersion : Addr} {D_MergeError : Addr} {C : Addr} (T : Blt mg) (dS : SchF P w K mg base C 4 (F_initX D_InvalidSchema) (F_slen C) (F_sflds C)) (dC_read : ClsM P w K mg base C "Schema" "read" "cls" "text" 6 (F_readS C D_InvalidText)) (dI : InsC K mg "Schema" C) (mE_InvalidText : mg "InvalidText" = some (.ref D_InvalidText)) (tE_InvalidText : PySem.W.exmOne K (.ref D_InvalidText) (.ref D_InvalidText) = some true) (ec_InvalidText : ExcC K D_InvalidText) (m_InvalidSchema : mg "InvalidSchema" = some (.ref D_InvalidSchema)) (m_InvalidVersion : mg "InvalidVersion" = some (.ref D_InvalidVersion)) (m_InvalidCommand : mg "InvalidCommand" = some (.ref D_InvalidCommand)) (ka_InvalidText_InvalidSchema_InvalidVersion_InvalidCommand : PySem.W.kitAny K (.ref D_InvalidText) [(.ref D_InvalidSchema), (.ref D_InvalidVersion), (.ref D_InvalidCommand)] = some false) (m_MergeError : mg "MergeError" = some (.ref D_MergeError)) (ki_InvalidText_MergeError : PySem.W.kitOne K (.ref D_InvalidText) (.ref D_MergeError) = some true) (xf_InvalidText : XfC K D_InvalidText) (no_InvalidText_line : PySem.W.findIn K (.ref D_InvalidText) "line" = some none) :
    ∀ (cdv : Value) (A : Around) (outer : List Env) (s : Shared) (H : Hp) (E : XK), Room 6 (A.deeper (envOfC "_law_met" (defScope s_law_met) s.heap.objs.size f cdv)) → TrB (cxOf (CXL P w mg) P w K mg base ["_law_note", "_law_told", "_law_made", "e", "_law_others"] "_law_met" (defScope s_law_met) f cdv A outer s H E) (defBody s_law_met) (fb_law_met C D_InvalidText) := by
  exact fun cdv A outer s H E hr => (TbW.run (tw_consV (ts_setV 1 (xe_lstV (xw_cons xe_str xw_nil)) sc_law_met.nd rfl (by first | exact .inl rfl | exact .inr rfl)) (tw_cons (ts_tryAs 3 rfl rfl sc_law_met.nd rfl rfl (by rfl) mE_InvalidText tE_InvalidText (fun pn xe => (TbW.run (tw_cons (ts_set 2 (xe_cm dC_read ⟨rfl, rfl, rfl, rfl, rfl⟩ hr (by decide) (by rfl) (TaW.run (xw_cons (xe_var 0 (pv 0)) xw_nil))) sc_law_met.nd rfl (by first | exact .inl rfl | exact .inr rfl)) (tw_one (ts_set 1 (xe_if (xt_val (xe_isO dI (by rfl) T.isinstance (by rfl) (xe_var 2 (pv 2)))) (xe_lstW (xw_cons xe_str (xw_cons (xe_fldsS dS (flds_one C) ⟨rfl, rfl, rfl, rfl, rfl⟩ hr (by decide) (xe_var 2 (pv 2))) xw_nil))) (xe_lstW (xw_cons xe_str xw_nil))) sc_law_met.nd rfl (by first | exact .inl rfl | exact .inr rfl)))))) (fun a dd oe pn hz hf => (TbW.run (tw_cons (ts_set 4 (xe_isXT hz hf (by rfl) T.isinstance (pv 3) (cla_cons (pe_glob (v := .ref D_InvalidSchema) (by rfl) m_InvalidSchema rfl) (cla_cons (pe_glob (v := .ref D_InvalidVersion) (by rfl) m_InvalidVersion rfl) (cla_cons (pe_glob (v := .ref D_InvalidCommand) (by rfl) m_InvalidCommand rfl) cla_nil))) (by show 3 ≤ sizeLine; decide) (.cons (.own D_InvalidSchema) (.cons (.own D_InvalidVersion) (.cons (.own D_InvalidCommand) .nil))) ec_InvalidText ka_InvalidText_InvalidSchema_InvalidVersion_InvalidCommand) sc_law_met.nd rfl (by first | exact .inl rfl | exact .inr rfl)) (tw_one (ts_set 1 (xe_if (TrW.t (xw_and (xt_val (xe_isX hz hf (by rfl) T.isinstance (pv 3) (pe_glob (v := .ref D_MergeError) (by rfl) m_MergeError rfl) (.own D_MergeError) ec_InvalidText ki_InvalidText_MergeError)) (xw_and1 (xt_not (xt_val (xe_var 4 (pv 4))))))) (xe_lstW (xw_cons xe_str (xw_cons (xe_xf xf_InvalidText no_InvalidText_line hz hf (pv 3)) xw_nil))) (xe_lstW (xw_cons xe_str xw_nil))) sc_law_met.nd rfl (by first | exact .inl rfl | exact .inr rfl))))))) (tw_one (ts_ret (xe_var 1 (pv 1)))))))
end K10
set_option Elab.async false
set_option linter.all false
set_option maxRecDepth 100000
set_option maxHeartbeats 4000000
namespace K10
open PySem PySem.Spec PyProof.Rows L2 Evl Kc Kz Kx Tr Mg K23 K22 K27 K24 KA KB KI KP KR
abbrev s_law_bent : Stmt := topS 31
theorem sc_law_bent : FnScope ["_law_pot_here", "_law_note", "_law_at", "_law_way", "_law_odd", "_law_words_here", "_law_spot", "_law_some"] ["_law_pot_here", "_law_note"] (defScope s_law_bent) := ⟨rfl, rfl, rfl, by decide +kernel, rfl, by decide +kernel, by decide +kernel⟩
theorem tr_law_bent {P : Program} {w : World} {K : PySem.W.Frag} {mg : Str → Option Value} {base : Heap} {f : Addr} (T : Blt mg) (d__law_draw : DefO P w K mg base "_law_draw" ["_law_pot_here", "_law_many"] 1 F_draw) :
    ∀ (cdv : Value) (A : Around) (outer : List Env) (s : Shared) (H : Hp) (E : XK), Room 1 (A.deeper (envOfC "_law_bent" (defScope s_law_bent) s.heap.objs.size f cdv)) → TrB (cxOf (CXL P w mg) P w K mg base ["_law_pot_here", "_law_note", "_law_at", "_law_way", "_law_odd", "_law_words_here", "_law_spot", "_law_some"] "_law_bent" (defScope s_law_bent) f cdv A outer s H E) (defBody s_law_bent) (fb_law_bent) := by
  exact fun cdv A outer s H E hr => (TbW.run (tw_cons (ts_par (TaW.run (xw_cons (xe_callD d__law_draw ⟨rfl, rfl, rfl, rfl, rfl⟩ hr (by decide) (by rfl) (TaW.run (xw_cons (xe_var 0 (pv 0)) (xw_cons (xe_add (xe_len (by rfl) T.len (TaW.run (xw_cons (xe_var 1 (pv 1)) xw_nil))) xe_int) xw_nil))) (he := star_of rfl) (hpl := plain_of rfl)) (xw_cons (xe_callD d__law_draw ⟨rfl, rfl, rfl, rfl, rfl⟩ hr (by decide) (by rfl) (TaW.run (xw_cons (xe_var 0 (pv 0)) (xw_cons xe_int xw_nil))) (he := star_of rfl) (hpl := plain_of rfl)) xw_nil))) rfl sc_law_bent.nd rfl rfl (by decide) rfl rfl rfl) (tw_cons (ts_set 4 (xe_at (fun _ _ => rfl) xe_str (xe_callD d__law_draw ⟨rfl, rfl, rfl, rfl, rfl⟩ hr (by decide) (by rfl) (TaW.run (xw_cons (xe_var 0 (pv 0)) (xw_cons xe_int xw_nil))) (he := star_of rfl) (hpl := plain_of rfl))) sc_law_bent.nd rfl (by first | exact .inl rfl | exact .inr rfl)) (tw_cons (ts_if (xt_eq hr (xe_var 3 (pv 3)) xe_int) (TbW.run (tw_one (ts_ret (xe_add (xe_add (xe_slice (xe_var 1 (pv 1)) xo_none (xo_some (xe_var 2 (pv 2)))) (xe_var 4 (pv 4))) (xe_slice (xe_var 1 (pv 1)) (xo_some (xe_var 2 (pv 2))) xo_none))))) tb_nil) (tw_cons (ts_if (xt_eq hr (xe_var 3 (pv 3)) xe_int) (TbW.run (tw_one (ts_ret (xe_add (xe_slice (xe_var 1 (pv 1)) xo_none (xo_some (xe_var 2 (pv 2)))) (xe_slice (xe_var 1 (pv 1)) (xo_some (xe_add (xe_var 2 (pv 2)) xe_int)) xo_none))))) tb_nil) (tw_cons (ts_set 5 (xe_split (xe_var 1 (pv 1)) (TaW.run (xw_cons xe_str xw_nil))) sc_law_bent.nd rfl (by first | exact .inl rfl | exact .inr rfl)) (tw_cons (ts_set 6 (xe_callD d__law_draw ⟨rfl, rfl, rfl, rfl, rfl⟩ hr (by decide) (by rfl) (TaW.run (xw_cons (xe_var 0 (pv 0)) (xw_cons (xe_len (by rfl) T.len (TaW.run (xw_cons (xe_var 5 (pv 5)) xw_nil))) xw_nil))) (he := star_of rfl) (hpl := plain_of rfl)) sc_law_bent.nd rfl (by first | exact .inl rfl | exact .inr rfl)) (tw_consV (ts_setV 7 (xe_lstV (xv_cons (xe_lstV xw_nil) (xw_cons (xe_mul (xe_slice (xe_var 5 (pv 5)) (xo_some (xe_var 6 (pv 6))) (xo_some (xe_add (xe_var 6 (pv 6)) xe_int))) xe_int) (xv_cons (xe_lstV (xw_cons xe_str xw_nil)) (xv_cons (xe_lstV (xw_cons xe_str xw_nil)) (xv_cons (xe_lstV (xw_cons (xe_up (xe_at (fun _ _ => rfl) (xe_var 5 (pv 5)) (xe_var 6 (pv 6)))) xw_nil)) (xv_cons (xe_lstV (xw_cons (xe_add (xe_at (fun _ _ => rfl) (xe_var 5 (pv 5)) (xe_var 6 (pv 6))) xe_str) xw_nil)) xw_nil))))))) sc_law_bent.nd rfl (by first | exact .inl rfl | exact .inr rfl)) (tw_cons (ts_set 7 (xe_addV (xe_var 7 (pv 7)) (xe_lstV (xv_cons (xe_lstV (xw_cons xe_str xw_nil)) (xv_cons (xe_lstV (xw_cons xe_str xw_nil)) (xv_cons (xe_lstV (xw_cons xe_str (xw_cons xe_str (xw_cons xe_str (xw_cons xe_str xw_nil))))) xw_nil))))) sc_law_bent.nd rfl (by first | exact .inl rfl | exact .inr rfl)) (tw_one (ts_ret (xe_join xe_str (TaW.run (xw_cons (xe_add (xe_add (xe_slice (xe_var 5 (pv 5)) xo_none (xo_some (xe_var 6 (pv 6)))) (xe_at (fun _ _ => rfl) (xe_var 7 (pv 7)) (xe_callD d__law_draw ⟨rfl, rfl, rfl, rfl, rfl⟩ hr (by decide) (by rfl) (TaW.run (xw_cons (xe_var 0 (pv 0)) (xw_cons xe_int xw_nil))) (he := star_of rfl) (hpl := plain_of rfl)))) (xe_slice (xe_var 5 (pv 5)) (xo_some (xe_add (xe_var 6 (pv 6)) (xe_mod (xe_var 3 (pv 3)) xe_int))) xo_none)) xw_nil))))))))))))))
end K10
set_option Elab.async false
set_option linter.all false
set_option maxRecDepth 100000
set_option maxHeartbeats 4000000
namespace K10
open PySem PySem.Spec PyProof.Rows L2 Evl Kc Kz Kx Tr Mg K23 K22 K27 K24 KA KB KI KP KR
abbrev s_law : Stmt := topS 32
theorem sc_law : FnScope ["_law_script", "_law_k", "_law_pot_here", "_law_rows", "_law_made", "_law_note", "_law_turn", "_law_other", "_law_due", "_law_names", "_law_marks", "_law_item", "_law_name"] ["_law_script"] (defScope s_law) := ⟨rfl, rfl, rfl, by decide +kernel, rfl, by decide +kernel, by decide +kernel⟩
theorem tr_law {P : Program} {w : World} {K : PySem.W.Frag} {mg : Str → Option Value} {base : Heap} {f : Addr} {D_InvalidSchema : Addr} {D_InvalidText : Addr} {C : Addr} (T : Blt mg) (dS : SchF P w K mg base C 4 (F_initX D_InvalidSchema) (F_slen C) (F_sflds C)) (dC_read : ClsM P w K mg base C "Schema" "read" "cls" "text" 6 (F_readS C D_InvalidText)) (dQ : EqM P w K mg base C 1 (F_same C)) (dM_text : Met0 P w K mg base C "text" 1 (F_text C)) (dM_names : Met0 P w K mg base C "names" 1 (F_names C)) (d__law_pot : DefO P w K mg base "_law_pot" ["_law_script", "_law_k"] 1 F_pot) (d__law_fields : DefO P w K mg base "_law_fields" ["_law_pot_here", "_law_marks", "_law_sums"] 4 F_fields) (d__law_draw : DefO P w K mg base "_law_draw" ["_law_pot_here", "_law_many"] 1 F_draw) (d__law_note_of : DefO P w K mg base "_law_note_of" ["_law_rows"] 1 F_noteOf) (d__law_bent : DefO P w K mg base "_law_bent" ["_law_pot_here", "_law_note"] 2 F_bent10) (d__law_rows_in : DefO P w K mg base "_law_rows_in" ["_law_note"] 2 F_rowsIn) (d__law_met : DefO P w K mg base "_law_met" ["_law_note"] 7 (F_met10 C)) (d__law_words : DefO P w K mg base "_law_words" ["_law_pot_here", "_law_many"] 3 F_words25) (dCk_read : ClsK P w K mg base C "Schema" "read" "cls" "text" 6 (F_readS C D_InvalidText)) (hM : Mods base) :
    ∀ (cdv : Value) (A : Around) (outer : List Env) (s : Shared) (H : Hp) (E : XK), A.guards = some [] → Room 8 (A.deeper (envOfC "law" (defScope s_law) s.heap.objs.size f cdv)) → TrB (cxOf (CXL P w mg) P w K mg base ["_law_script", "_law_k", "_law_pot_here", "_law_rows", "_law_made", "_law_note", "_law_turn", "_law_other", "_law_due", "_law_names", "_law_marks", "_law_item", "_law_name"] "law" (defScope s_law) f cdv A outer s H E) (defBody s_law) (fb_law C D_InvalidSchema D_InvalidText) := by
  exact fun cdv A outer s H E gd hr => (TbW.run (tw_cons (ts_for (ti_range1 (by rfl) T.range (TaW.run (xw_cons (xe_max2 (by rfl) T.max rfl (TaW.run (xw_cons xe_int (xw_cons (xe_min2 (by rfl) T.min rfl (TaW.run (xw_cons xe_int (xw_cons (xe_scrLen (by rfl) T.len (xe_var 0 (pv 0))) xw_nil)))) xw_nil)))) xw_nil))) (tg_name 1 sc_law.nd rfl (by first | exact .inl rfl | exact .inr rfl)) (TbW.run (tw_cons (ts_set 2 (xe_callD d__law_pot ⟨rfl, rfl, rfl, rfl, rfl⟩ hr (by decide) (by rfl) (TaW.run (xw_cons (xe_var 0 (pv 0)) (xw_cons (xe_var 1 (pv 1)) xw_nil))) (he := star_of rfl) (hpl := plain_of rfl)) sc_law.nd rfl (by first | exact .inl rfl | exact .inr rfl)) (tw_cons (ts_set 3 (xe_callD d__law_fields ⟨rfl, rfl, rfl, rfl, rfl⟩ hr (by decide) (by rfl) (TaW.run (xw_cons (xe_var 2 (pv 2)) (xw_cons (xe_add xe_int (xe_callD d__law_draw ⟨rfl, rfl, rfl, rfl, rfl⟩ hr (by decide) (by rfl) (TaW.run (xw_cons (xe_var 2 (pv 2)) (xw_cons xe_int xw_nil))) (he := star_of rfl) (hpl := plain_of rfl))) (xw_cons (xe_callD d__law_draw ⟨rfl, rfl, rfl, rfl, rfl⟩ hr (by decide) (by rfl) (TaW.run (xw_cons (xe_var 2 (pv 2)) (xw_cons xe_int xw_nil))) (he := star_of rfl) (hpl := plain_of rfl)) xw_nil)))) (he := star_of rfl) (hpl := plain_of rfl)) sc_law.nd rfl (by first | exact .inl rfl | exact .inr rfl)) (tw_cons (ts_par (TaW.run (xw_cons (xe_mkXS dS ⟨rfl, rfl, rfl, rfl, rfl⟩ hr (by decide) (by rfl) (TaW.run (xw_cons (xe_frz 3 (pv 3)) xw_nil))) (xw_cons (xe_callD d__law_note_of ⟨rfl, rfl, rfl, rfl, rfl⟩ hr (by decide) (by rfl) (TaW.run (xw_cons (xe_frz 3 (pv 3)) xw_nil)) (he := star_of rfl) (hpl := plain_of rfl)) xw_nil))) rfl sc_law.nd rfl rfl (by decide) rfl rfl rfl) (tw_cons (ts_if (TrW.t (xw_or (xt_neZ hr (xe_met0 dM_text (F_text_one C) ⟨rfl, rfl, rfl, rfl, rfl⟩ hr (by decide) (xe_var 4 (pv 4))) (xe_var 5 (pv 5))) (xw_or1 (xt_not (xt_eqO dQ ⟨rfl, rfl, rfl, rfl, rfl⟩ hr (by decide) (xe_cmK dCk_read ⟨rfl, rfl, rfl, rfl, rfl⟩ hr (by decide) (by rfl) (xe_var 5 (pv 5))) (xe_var 4 (pv 4))))))) (TbW.run (tw_one (ts_ret xe_bl))) tb_nil) (tw_cons (ts_for (ti_range1 (by rfl) T.range (TaW.run (xw_cons xe_int xw_nil))) (tg_name 6 sc_law.nd rfl (by first | exact .inl rfl | exact .inr rfl)) (TbW.run (tw_cons (ts_set 7 (xe_callD d__law_bent ⟨rfl, rfl, rfl, rfl, rfl⟩ hr (by decide) (by rfl) (TaW.run (xw_cons (xe_var 2 (pv 2)) (xw_cons (xe_var 5 (pv 5)) xw_nil))) (he := star_of rfl) (hpl := plain_of rfl)) sc_law.nd rfl (by first | exact .inl rfl | exact .inr rfl)) (tw_cons (ts_if (xt_eq hr (xe_callD d__law_draw ⟨rfl, rfl, rfl, rfl, rfl⟩ hr (by decide) (by rfl) (TaW.run (xw_cons (xe_var 2 (pv 2)) (xw_cons xe_int xw_nil))) (he := star_of rfl) (hpl := plain_of rfl)) xe_int) (TbW.run (tw_one (ts_set 7 (xe_callD d__law_bent ⟨rfl, rfl, rfl, rfl, rfl⟩ hr (by decide) (by rfl) (TaW.run (xw_cons (xe_var 2 (pv 2)) (xw_cons (xe_var 7 (pv 7)) xw_nil))) (he := star_of rfl) (hpl := plain_of rfl)) sc_law.nd rfl (by first | exact .inl rfl | exact .inr rfl)))) tb_nil) (tw_cons (ts_set 8 (xe_callD d__law_rows_in ⟨rfl, rfl, rfl, rfl, rfl⟩ hr (by decide) (by rfl) (TaW.run (xw_cons (xe_var 7 (pv 7)) xw_nil)) (he := star_of rfl) (hpl := plain_of rfl)) sc_law.nd rfl (by first | exact .inl rfl | exact .inr rfl)) (tw_one (ts_if (xt_neT (xe_reprX hM gd hr (by rfl) T.repr (TaW.run (xw_cons (xe_callD d__law_met ⟨rfl, rfl, rfl, rfl, rfl⟩ hr (by decide) (by rfl) (TaW.run (xw_cons (xe_var 7 (pv 7)) xw_nil)) (he := star_of rfl) (hpl := plain_of rfl)) xw_nil))) (xe_reprX hM gd hr (by rfl) T.repr (TaW.run (xw_cons (xe_if (xt_is (xe_var 8 (pv 8)) xe_non) (xe_lstW (xw_cons xe_str (xw_cons xe_int xw_nil))) (xe_lstW (xw_cons xe_str (xw_cons (xe_frz 8 (pv 8)) xw_nil)))) xw_nil)))) (TbW.run (tw_one (ts_ret xe_bl))) tb_nil)))))) (passes_of rfl) rfl) (tw_cons (ts_set 9 (xe_callD d__law_words ⟨rfl, rfl, rfl, rfl, rfl⟩ hr (by decide) (by rfl) (TaW.run (xw_cons (xe_var 2 (pv 2)) (xw_cons xe_int xw_nil))) (he := star_of rfl) (hpl := plain_of rfl)) sc_law.nd rfl (by first | exact .inl rfl | exact .inr rfl)) (tw_cons (ts_lc 10 (own := [("_law_name", 12)]) (ti_list (xe_frz 9 (pv 9))) rfl sc_law.nd rfl rfl (sw_true rfl rfl rfl (by decide +kernel)) (blkOk_by (N := ["_law_script", "_law_k", "_law_pot_here", "_law_rows", "_law_made", "_law_note", "_law_turn", "_law_other", "_law_due", "_law_names", "_law_marks", "_law_item", "_law_name"]) (sc := defScope s_law) (by decide +kernel)) (fun _ _ _ _ _ => (tg_name 12 sc_law.nd rfl (by first | exact .inl rfl | exact .inr rfl))) (fun _ _ _ _ _ => (xe_add (xe_add (xe_var 12 (pv 12)) xe_str) (xe_at (fun _ _ => rfl) (xe_lstW (xw_cons xe_str (xw_cons xe_str xw_nil))) (xe_callD d__law_draw ⟨rfl, rfl, rfl, rfl, rfl⟩ hr (by decide) (by rfl) (TaW.run (xw_cons (xe_var 2 (pv 2)) (xw_cons xe_int xw_nil))) (he := star_of rfl) (hpl := plain_of rfl)))))) (tw_cons (ts_if (TrW.t (xw_or (xt_neZ hr (xe_met0 dM_names (F_names_one C) ⟨rfl, rfl, rfl, rfl, rfl⟩ hr (by decide) (xe_cm dC_read ⟨rfl, rfl, rfl, rfl, rfl⟩ hr (by decide) (by rfl) (TaW.run (xw_cons (xe_join xe_str (TaW.run (xw_cons (xe_slice (xe_var 10 (pv 10)) xo_none (xo_some xe_int)) xw_nil))) xw_nil)))) (xe_slice (xe_var 9 (pv 9)) xo_none (xo_some xe_int))) (xw_or1 (xt_neZ hr (xe_callD d__law_met ⟨rfl, rfl, rfl, rfl, rfl⟩ hr (by decide) (by rfl) (TaW.run (xw_cons (xe_join xe_str (TaW.run (xw_cons (xe_var 10 (pv 10)) xw_nil))) xw_nil)) (he := star_of rfl) (hpl := plain_of rfl)) (xe_lstW (xw_cons xe_str (xw_cons xe_int xw_nil))))))) (TbW.run (tw_one (ts_ret xe_bl))) tb_nil) (tw_cons (ts_forAW 11 (xw_cons xe_non (xw_cons xe_int (xw_cons xe_bl (xv_cons (xe_lstV (xw_cons (xe_frz 5 (pv 5)) xw_nil)) (xv_cons (xe_tupV (xw_cons (xe_frz 5 (pv 5)) xw_nil)) (xw_cons xe_d0 (xw_cons (xe_frz 3 (pv 3)) (xw_cons (xe_frz 4 (pv 4)) xw_nil)))))))) sc_law.nd rfl (by first | exact .inl rfl | exact .inr rfl) (tw_one (ts_if (xt_neZ hr (xe_callD d__law_met ⟨rfl, rfl, rfl, rfl, rfl⟩ hr (by decide) (by rfl) (TaW.run (xw_cons (xe_var 11 (pv 11)) xw_nil)) (he := star_of rfl) (hpl := plain_of rfl)) (xe_lstW (xw_cons xe_str (xw_cons xe_int xw_nil)))) (TbW.run (tw_one (ts_ret xe_bl))) tb_nil)) (passes_of rfl) rfl) (tw_one (ts_if (TrW.t (xw_or (xt_neZ hr (xe_met0 dM_text (F_text_one C) ⟨rfl, rfl, rfl, rfl, rfl⟩ hr (by decide) (xe_var 4 (pv 4))) (xe_var 5 (pv 5))) (xw_or1 (xt_neZ hr (xe_met0 dM_text (F_text_one C) ⟨rfl, rfl, rfl, rfl, rfl⟩ hr (by decide) (xe_mkXS dS ⟨rfl, rfl, rfl, rfl, rfl⟩ hr (by decide) (by rfl) (TaW.run (xw_cons (xe_tuple (by rfl) T.tuple (TaW.run (xw_cons (xe_frz 3 (pv 3)) xw_nil))) xw_nil)))) (xe_var 5 (pv 5)))))) (TbW.run (tw_one (ts_ret xe_bl))) tb_nil)))))))))))) (passes_of rfl) rfl) (tw_one (ts_ret xe_bl))))
end K10
set_option Elab.async false
set_option linter.all false
set_option maxRecDepth 100000
set_option maxHeartbeats 4000000
namespace K10
open PySem PySem.Spec PyProof.Rows L2 Evl Kc Kz Kx Tr Mg K23 K22 K27 K24 KA KB KI KP KR
abbrev s_is_name : Stmt := topS 16
theorem sc_is_name : FnScope ["thing", "letter"] ["thing"] (defScope s_is_name) := ⟨rfl, rfl, rfl, by decide +kernel, rfl, by decide +kernel, by decide +kernel⟩
theorem tr_is_name {P : Program} {w : World} {K : PySem.W.Frag} {mg : Str → Option Value} {base : Heap} {f : Addr} (T : Blt mg) (g_LETTERS : ∃ t, mg "LETTERS" = some (.str "abcdefghijklmnopqrstuvwxyz" t)) (g_MOST_LETTERS : ∃ t, mg "MOST_LETTERS" = some (.int (8) t)) :
    ∀ (cdv : Value) (A : Around) (outer : List Env) (s : Shared) (H : Hp) (E : XK), Room 0 (A.deeper (envOfC "is_name" (defScope s_is_name) s.heap.objs.size f cdv)) → TrB (cxOf (CXL P w mg) P w K mg base ["thing", "letter"] "is_name" (defScope s_is_name) f cdv A outer s H E) (defBody s_is_name) (fb_is_name) := by
  obtain ⟨t_LETTERS, h_LETTERS⟩ := g_LETTERS
  obtain ⟨t_MOST_LETTERS, h_MOST_LETTERS⟩ := g_MOST_LETTERS
  exact fun cdv A outer s H E hr => (TbW.run (tw_cons (ts_if (xt_not (xt_val (xe_isi (by rfl) T.isinstance (by decide +kernel) (pe_bltn (v := .ty "str") (by rfl) T.str (by decide +kernel) rfl) (xe_var 0 (pv 0))))) (TbW.run (tw_one (ts_ret xe_bl))) tb_nil) (tw_one (ts_ret (xe_and (xe_ch op_le op_le xe_int (xe_len (by rfl) T.len (TaW.run (xw_cons (xe_var 0 (pv 0)) xw_nil))) (xe_c (pe_glob (v := .int (8)) (by rfl) h_MOST_LETTERS ⟨_, rfl⟩) (fun _ => .int _))) (xe_one (xe_all (by rfl) T.all rfl (TaW.run (xw_cons (xe_lc (own := [("letter", 1)]) (ti_str (xe_frz 0 (pv 0))) rfl sc_is_name.nd (blkOk_by (N := ["thing", "letter"]) (sc := defScope s_is_name) (by decide +kernel)) (fun _ _ _ _ _ => (tg_name 1 sc_is_name.nd rfl (by first | exact .inl rfl | exact .inr rfl))) (fun _ _ _ _ _ => (xe_in hr (by with_unfolding_all rfl) (xe_var 1 (pv 1)) (xe_c (pe_glob (v := .str "abcdefghijklmnopqrstuvwxyz") (by rfl) h_LETTERS ⟨_, rfl⟩) (fun _ => .str _))))) xw_nil)))))))))
end K10
set_option Elab.async false
set_option linter.all false
set_option maxRecDepth 100000
set_option maxHeartbeats 4000000
namespace K10
open PySem PySem.Spec PyProof.Rows L2 Evl Kc Kz Kx Tr Mg K23 K22 K27 K24 KA KB KI KP KR
abbrev s_is_field : Stmt := topS 17
theorem sc_is_field : FnScope ["thing", "name", "kind"] ["thing"] (defScope s_is_field) := ⟨rfl, rfl, rfl, by decide +kernel, rfl, by decide +kernel, by decide +kernel⟩
theorem tr_is_field {P : Program} {w : World} {K : PySem.W.Frag} {mg : Str → Option Value} {base : Heap} {f : Addr} (T : Blt mg) (g_KINDS : ∃ a, mg "KINDS" = some (.ref a) ∧ ∀ G, Rp K G (.ref a) (.tuple [.str "mine", .str "theirs", .str "counter"])) (d_is_name : DefO P w K mg base "is_name" ["thing"] 1 F_nameA) :
    ∀ (cdv : Value) (A : Around) (outer : List Env) (s : Shared) (H : Hp) (E : XK), Room 1 (A.deeper (envOfC "is_field" (defScope s_is_field) s.heap.objs.size f cdv)) → TrB (cxOf (CXL P w mg) P w K mg base ["thing", "name", "kind"] "is_field" (defScope s_is_field) f cdv A outer s H E) (defBody s_is_field) (fb_is_field) := by
  obtain ⟨a_KINDS, h_KINDS, r_KINDS⟩ := g_KINDS
  exact fun cdv A outer s H E hr => (TbW.run (tw_cons (ts_if (TrW.t (xw_or (xt_not (xt_val (xe_isi (by rfl) T.isinstance (by decide +kernel) (pe_bltn (v := .ty "tuple") (by rfl) T.tuple (by decide +kernel) rfl) (xe_var 0 (pv 0))))) (xw_or1 (xt_ne hr (xe_len (by rfl) T.len (TaW.run (xw_cons (xe_var 0 (pv 0)) xw_nil))) xe_int)))) (TbW.run (tw_one (ts_ret xe_bl))) tb_nil) (tw_cons (ts_asg (xe_frz 0 (pv 0)) (tg_tup (tgs_cons (tg_name 1 sc_is_field.nd rfl (by first | exact .inl rfl | exact .inr rfl)) (tgs_cons (tg_name 2 sc_is_field.nd rfl (by first | exact .inl rfl | exact .inr rfl)) tgs_nil)) rfl)) (tw_one (ts_ret (xe_and (xe_callD d_is_name ⟨rfl, rfl, rfl, rfl, rfl⟩ hr (by decide) (by rfl) (TaW.run (xw_cons (xe_var 1 (pv 1)) xw_nil)) (he := star_of rfl) (hpl := plain_of rfl)) (xe_and (xe_isi (by rfl) T.isinstance (by decide +kernel) (pe_bltn (v := .ty "str") (by rfl) T.str (by decide +kernel) rfl) (xe_var 2 (pv 2))) (xe_one (xe_in hr (by with_unfolding_all rfl) (xe_var 2 (pv 2)) (xe_c (pe_glob (v := .ref a_KINDS) (by rfl) h_KINDS rfl) r_KINDS))))))))))
end K10
set_option Elab.async false
set_option linter.all false
set_option maxRecDepth 100000
set_option maxHeartbeats 4000000
namespace K10
open PySem PySem.Spec PyProof.Rows L2 Evl Kc Kz Kx Tr Mg K23 K22 K27 K24 KA KB KI KP KR
abbrev s_field_problem : Stmt := topS 18
theorem sc_field_problem : FnScope ["field", "earlier", "name", "kind", "alike", "most", "row"] ["field", "earlier"] (defScope s_field_problem) := ⟨rfl, rfl, rfl, by decide +kernel, rfl, by decide +kernel, by decide +kernel⟩
theorem tr_field_problem {P : Program} {w : World} {K : PySem.W.Frag} {mg : Str → Option Value} {base : Heap} {f : Addr} {C : Addr} (T : Blt mg) (dV : CvS K mg C) (g_COUNTER : ∃ t, mg "COUNTER" = some (.str "counter" t)) (d_is_field : DefO P w K mg base "is_field" ["thing"] 2 F_fieldA) :
    ∀ (cdv : Value) (A : Around) (outer : List Env) (s : Shared) (H : Hp) (E : XK), Room 2 (A.deeper (envOfC "field_problem" (defScope s_field_problem) s.heap.objs.size f cdv)) → TrB (cxOf (CXL P w mg) P w K mg base ["field", "earlier", "name", "kind", "alike", "most", "row"] "field_problem" (defScope s_field_problem) f cdv A outer s H E) (defBody s_field_problem) (fb_field_problem C) := by
  obtain ⟨t_COUNTER, h_COUNTER⟩ := g_COUNTER
  obtain ⟨mc, u1, u2, cr, cv1, cv2⟩ := dV.cv
  exact fun cdv A outer s H E hr => (TbW.run (tw_cons (ts_if (xt_not (xt_val (xe_callD d_is_field ⟨rfl, rfl, rfl, rfl, rfl⟩ hr (by decide) (by rfl) (TaW.run (xw_cons (xe_var 0 (pv 0)) xw_nil)) (he := star_of rfl) (hpl := plain_of rfl)))) (TbW.run (tw_one (ts_ret xe_str))) tb_nil) (tw_cons (ts_asg (xe_frz 0 (pv 0)) (tg_tup (tgs_cons (tg_name 2 sc_field_problem.nd rfl (by first | exact .inl rfl | exact .inr rfl)) (tgs_cons (tg_name 3 sc_field_problem.nd rfl (by first | exact .inl rfl | exact .inr rfl)) tgs_nil)) rfl)) (tw_cons (ts_if (xt_in hr (by with_unfolding_all rfl) (xe_var 2 (pv 2)) (xe_lc (own := [("row", 6)]) (ti_list (xe_frz 1 (pv 1))) rfl sc_field_problem.nd (blkOk_by (N := ["field", "earlier", "name", "kind", "alike", "most", "row"]) (sc := defScope s_field_problem) (by decide +kernel)) (fun _ _ _ _ _ => (tg_name 6 sc_field_problem.nd rfl (by first | exact .inl rfl | exact .inr rfl))) (fun _ _ _ _ _ => (xe_at (fun _ _ => rfl) (xe_var 6 (pv 6)) xe_int)))) (TbW.run (tw_one (ts_ret xe_str))) tb_nil) (tw_cons (ts_lcif 4 (own := [("row", 6)]) (ti_list (xe_frz 1 (pv 1))) rfl sc_field_problem.nd rfl rfl (sw_true rfl rfl rfl (by decide +kernel)) (blkOk_by (N := ["field", "earlier", "name", "kind", "alike", "most", "row"]) (sc := defScope s_field_problem) (by decide +kernel)) (fun _ _ _ _ _ => (tg_name 6 sc_field_problem.nd rfl (by first | exact .inl rfl | exact .inr rfl))) (fun _ _ _ _ _ => (xt_eq hr (xe_eq hr (xe_at (fun _ _ => rfl) (xe_var 6 (pv 6)) xe_int) (xe_c (pe_glob (v := .str "counter") (by rfl) h_COUNTER ⟨_, rfl⟩) (fun _ => .str _))) (xe_eq hr (xe_var 3 (pv 3)) (xe_c (pe_glob (v := .str "counter") (by rfl) h_COUNTER ⟨_, rfl⟩) (fun _ => .str _))))) (fun _ _ _ _ _ => (xe_frz 6 (pv 6)))) (tw_cons (ts_set 5 (xe_if (xt_eq hr (xe_var 3 (pv 3)) (xe_c (pe_glob (v := .str "counter") (by rfl) h_COUNTER ⟨_, rfl⟩) (fun _ => .str _))) (xe_cint (by rfl) dV.mgC cr cv2) (xe_cint (by rfl) dV.mgC cr cv1)) sc_field_problem.nd rfl (by first | exact .inl rfl | exact .inr rfl)) (tw_one (ts_ret (xe_if (xt_eq hr (xe_len (by rfl) T.len (TaW.run (xw_cons (xe_var 4 (pv 4)) xw_nil))) (xe_var 5 (pv 5))) xe_str xe_non)))))))))
end K10
set_option Elab.async false
set_option linter.all false
set_option maxRecDepth 100000
set_option maxHeartbeats 4000000
namespace K10
open PySem PySem.Spec PyProof.Rows L2 Evl Kc Kz Kx Tr Mg K23 K22 K27 K24 KA KB KI KP KR
abbrev s_init : Stmt := inClass (topS 19) 2
theorem sc_init : FnScope ["self", "fields", "rows", "index", "field", "problem", "name", "kind"] ["self", "fields"] (defScope s_init) := ⟨rfl, rfl, rfl, by decide +kernel, rfl, by decide +kernel, by decide +kernel⟩
theorem tr_init {P : Program} {w : World} {K : PySem.W.Frag} {mg : Str → Option Value} {base : Heap} {f : Addr} {D_InvalidSchema : Addr} {C : Addr} (T : Blt mg) (dF : FlS K C) (d_field_problem : DefO P w K mg base "field_problem" ["field", "earlier"] 3 F_problemX) (dE_InvalidSchema : Er2 P w K mg base "InvalidSchema" D_InvalidSchema "problem" "index" "problem" "index" 2) :
    ∀ (p dx : Addr) (cdv : Value) (A : Around) (outer : List Env) (s : Shared) (H : Hp) (E : XK), Room 3 (A.deeper (envOfC "Schema.__init__" (defScope s_init) s.heap.objs.size f cdv)) → TrL (cxOf (CXL P w mg) P w K mg base ["self", "fields", "rows", "index", "field", "problem", "name", "kind"] "Schema.__init__" (defScope s_init) f cdv A outer s H E) p C dx "rows" (defBody s_init) (fb_init p D_InvalidSchema) := by
  exact fun p dx cdv A outer s H E hr => (tl_cons (ts_if (TrW.t (xw_or (xt_not (xt_val (xe_isi2 (by rfl) T.isinstance (by decide +kernel) (by decide +kernel) (pe_bltn (v := .ty "list") (by rfl) T.list (by decide +kernel) rfl) (pe_bltn (v := .ty "tuple") (by rfl) T.tuple (by decide +kernel) rfl) (xe_var 1 (pv 1))))) (xw_or1 (xt_eq hr (xe_len (by rfl) T.len (TaW.run (xw_cons (xe_var 1 (pv 1)) xw_nil))) xe_int)))) (TbW.run (tw_one (ts_raise2 dE_InvalidSchema ⟨rfl, rfl, rfl, rfl, rfl⟩ rfl hr (by decide) (by rfl) (TaW.run (xw_cons xe_str (xw_cons (xe_neg xe_int un_neg) xw_nil)))))) tb_nil) (tl_cons (ts_set 2 (xe_lstW xw_nil) sc_init.nd rfl (by first | exact .inl rfl | exact .inr rfl)) (tl_cons (ts_for (ti_enumA (by rfl) T.enumerate (TaW.run (xw_cons (xe_frz 1 (pv 1)) xw_nil))) (tg_tup (tgs_cons (tg_name 3 sc_init.nd rfl (by first | exact .inl rfl | exact .inr rfl)) (tgs_cons (tg_name 4 sc_init.nd rfl (by first | exact .inl rfl | exact .inr rfl)) tgs_nil)) rfl) (TbW.run (tw_cons (ts_set 5 (xe_callD d_field_problem ⟨rfl, rfl, rfl, rfl, rfl⟩ hr (by decide) (by rfl) (TaW.run (xw_cons (xe_var 4 (pv 4)) (xw_cons (xe_var 2 (pv 2)) xw_nil))) (he := star_of rfl) (hpl := plain_of rfl)) sc_init.nd rfl (by first | exact .inl rfl | exact .inr rfl)) (tw_cons (ts_if (xt_isNot (xe_var 5 (pv 5)) xe_non) (TbW.run (tw_one (ts_raise2 dE_InvalidSchema ⟨rfl, rfl, rfl, rfl, rfl⟩ rfl hr (by decide) (by rfl) (TaW.run (xw_cons (xe_frz 5 (pv 5)) (xw_cons (xe_frz 3 (pv 3)) xw_nil)))))) tb_nil) (tw_cons (ts_asg (xe_frz 4 (pv 4)) (tg_tup (tgs_cons (tg_name 6 sc_init.nd rfl (by first | exact .inl rfl | exact .inr rfl)) (tgs_cons (tg_name 7 sc_init.nd rfl (by first | exact .inl rfl | exact .inr rfl)) tgs_nil)) rfl)) (tw_one (ts_expr (xe_append 2 (pv 2) (TaW.run (xv_cons (xe_tupV (xw_cons (xe_frz 6 (pv 6)) (xw_cons (xe_frz 7 (pv 7)) xw_nil))) xw_nil))))))))) (passes_of rfl) rfl) (tl_one dF.cl dF.nR (xe_tuple (by rfl) T.tuple (TaW.run (xw_cons (xe_var 2 (pv 2)) xw_nil))) (pv 0)))))
end K10
set_option Elab.async false
set_option linter.all false
set_option maxRecDepth 100000
set_option maxHeartbeats 4000000
namespace K10
open PySem PySem.Spec PyProof.Rows L2 Evl Kc Kz Kx Tr Mg K23 K22 K27 K24 KA KB KI KP KR
abbrev s_slen : Stmt := inClass (topS 19) 4
theorem sc_slen : FnScope ["self"] ["self"] (defScope s_slen) := ⟨rfl, rfl, rfl, by decide +kernel, rfl, by decide +kernel, by decide +kernel⟩
theorem tr_slen {P : Program} {w : World} {K : PySem.W.Frag} {mg : Str → Option Value} {base : Heap} {f : Addr} {C : Addr} (T : Blt mg) (dF : FlS K C) :
    ∀ (cdv : Value) (A : Around) (outer : List Env) (s : Shared) (H : Hp) (E : XK), Room 0 (A.deeper (envOfC "Schema.__len__" (defScope s_slen) s.heap.objs.size f cdv)) → TrB (cxOf (CXL P w mg) P w K mg base ["self"] "Schema.__len__" (defScope s_slen) f cdv A outer s H E) (defBody s_slen) (fb_slen C) := by
  exact fun cdv A outer s H E hr => (TbW.run (tw_one (ts_ret (xe_len (by rfl) T.len (TaW.run (xw_cons (xe_fld dF.cl dF.nR (xe_var 0 (pv 0))) xw_nil))))))
end K10
set_option Elab.async false
set_option linter.all false
set_option maxRecDepth 100000
set_option maxHeartbeats 4000000
namespace K10
open PySem PySem.Spec PyProof.Rows L2 Evl Kc Kz Kx Tr Mg K23 K22 K27 K24 KA KB KI KP KR
abbrev s_sflds : Stmt := inClass (topS 19) 8
theorem sc_sflds : FnScope ["self"] ["self"] (defScope s_sflds) := ⟨rfl, rfl, rfl, by decide +kernel, rfl, by decide +kernel, by decide +kernel⟩
theorem tr_sflds {P : Program} {w : World} {K : PySem.W.Frag} {mg : Str → Option Value} {base : Heap} {f : Addr} {C : Addr} (T : Blt mg) (dF : FlS K C) :
    ∀ (cdv : Value) (A : Around) (outer : List Env) (s : Shared) (H : Hp) (E : XK), Room 0 (A.deeper (envOfC "Schema.fields" (defScope s_sflds) s.heap.objs.size f cdv)) → TrB (cxOf (CXL P w mg) P w K mg base ["self"] "Schema.fields" (defScope s_sflds) f cdv A outer s H E) (defBody s_sflds) (fb_sflds C) := by
  exact fun cdv A outer s H E hr => (TbW.run (tw_one (ts_ret (xe_list (by rfl) T.list rfl (TaW.run (xw_cons (xe_fld dF.cl dF.nR (xe_var 0 (pv 0))) xw_nil))))))
end K10
set_option Elab.async false
set_option linter.all false
set_option maxRecDepth 100000
set_option maxHeartbeats 4000000
namespace K10
open PySem PySem.Spec PyProof.Rows L2 Evl Kc Kz Kx Tr Mg K23 K22 K27 K24 KA KB KI KP KR
abbrev s_stext : Stmt := inClass (topS 19) 7
theorem sc_stext : FnScope ["self", "name", "kind"] ["self"] (defScope s_stext) := ⟨rfl, rfl, rfl, by decide +kernel, rfl, by decide +kernel, by decide +kernel⟩
theorem tr_stext {P : Program} {w : World} {K : PySem.W.Frag} {mg : Str → Option Value} {base : Heap} {f : Addr} {C : Addr} (T : Blt mg) (dF : FlS K C) :
    ∀ (cdv : Value) (A : Around) (outer : List Env) (s : Shared) (H : Hp) (E : XK), Room 0 (A.deeper (envOfC "Schema.text" (defScope s_stext) s.heap.objs.size f cdv)) → TrB (cxOf (CXL P w mg) P w K mg base ["self", "name", "kind"] "Schema.text" (defScope s_stext) f cdv A outer s H E) (defBody s_stext) (fb_stext C) := by
  exact fun cdv A outer s H E hr => (TbW.run (tw_one (ts_ret (xe_join xe_str (TaW.run (xw_cons (xe_lc (own := [("name", 1), ("kind", 2)]) (ti_tup (xe_fld dF.cl dF.nR (xe_var 0 (pv 0)))) rfl sc_stext.nd (blkOk_by (N := ["self", "name", "kind"]) (sc := defScope s_stext) (by decide +kernel)) (fun _ _ _ _ _ => (tg_tup (tgs_cons (tg_name 1 sc_stext.nd rfl (by first | exact .inl rfl | exact .inr rfl)) (tgs_cons (tg_name 2 sc_stext.nd rfl (by first | exact .inl rfl | exact .inr rfl)) tgs_nil)) rfl)) (fun _ _ _ _ _ => (xe_fs (xe_var 1 (pv 1)) (xe_var 2 (pv 2))))) xw_nil))))))
end K10
set_option Elab.async false
set_option linter.all false
set_option maxRecDepth 100000
set_option maxHeartbeats 4000000
namespace K10
open PySem PySem.Spec PyProof.Rows L2 Evl Kc Kz Kx Tr Mg K23 K22 K27 K24 KA KB KI KP KR
abbrev s_snames : Stmt := inClass (topS 19) 9
theorem sc_snames : FnScope ["self", "name", "kind"] ["self"] (defScope s_snames) := ⟨rfl, rfl, rfl, by decide +kernel, rfl, by decide +kernel, by decide +kernel⟩
theorem tr_snames {P : Program} {w : World} {K : PySem.W.Frag} {mg : Str → Option Value} {base : Heap} {f : Addr} {C : Addr} (T : Blt mg) (dF : FlS K C) :
    ∀ (cdv : Value) (A : Around) (outer : List Env) (s : Shared) (H : Hp) (E : XK), Room 0 (A.deeper (envOfC "Schema.names" (defScope s_snames) s.heap.objs.size f cdv)) → TrB (cxOf (CXL P w mg) P w K mg base ["self", "name", "kind"] "Schema.names" (defScope s_snames) f cdv A outer s H E) (defBody s_snames) (fb_snames C) := by
  exact fun cdv A outer s H E hr => (TbW.run (tw_one (ts_ret (xe_lc (own := [("name", 1), ("kind", 2)]) (ti_tup (xe_fld dF.cl dF.nR (xe_var 0 (pv 0)))) rfl sc_snames.nd (blkOk_by (N := ["self", "name", "kind"]) (sc := defScope s_snames) (by decide +kernel)) (fun _ _ _ _ _ => (tg_tup (tgs_cons (tg_name 1 sc_snames.nd rfl (by first | exact .inl rfl | exact .inr rfl)) (tgs_cons (tg_name 2 sc_snames.nd rfl (by first | exact .inl rfl | exact .inr rfl)) tgs_nil)) rfl)) (fun _ _ _ _ _ => (xe_frz 1 (pv 1)))))))
end K10
set_option Elab.async false
set_option linter.all false
set_option maxRecDepth 100000
set_option maxHeartbeats 4000000
namespace K10
open PySem PySem.Spec PyProof.Rows L2 Evl Kc Kz Kx Tr Mg K23 K22 K27 K24 KA KB KI KP KR
abbrev s_seq : Stmt := inClass (topS 19) 3
theorem sc_seq : FnScope ["self", "other"] ["self", "other"] (defScope s_seq) := ⟨rfl, rfl, rfl, by decide +kernel, rfl, by decide +kernel, by decide +kernel⟩
theorem tr_seq {P : Program} {w : World} {K : PySem.W.Frag} {mg : Str → Option Value} {base : Heap} {f : Addr} {C : Addr} (T : Blt mg) (dI : InsC K mg "Schema" C) (dF : FlS K C) :
    ∀ (cdv : Value) (A : Around) (outer : List Env) (s : Shared) (H : Hp) (E : XK), Room 0 (A.deeper (envOfC "Schema.__eq__" (defScope s_seq) s.heap.objs.size f cdv)) → TrB (cxOf (CXL P w mg) P w K mg base ["self", "other"] "Schema.__eq__" (defScope s_seq) f cdv A outer s H E) (defBody s_seq) (fb_seq C) := by
  exact fun cdv A outer s H E hr => (TbW.run (tw_one (ts_ret (xe_and (xe_isO dI (by rfl) T.isinstance (by rfl) (xe_var 1 (pv 1))) (xe_one (xe_eq hr (xe_fld dF.cl dF.nR (xe_var 0 (pv 0))) (xe_fld dF.cl dF.nR (xe_var 1 (pv 1)))))))))
end K10
set_option Elab.async false
set_option linter.all false
set_option maxRecDepth 100000
set_option maxHeartbeats 4000000
namespace K10
open PySem PySem.Spec PyProof.Rows L2 Evl Kc Kz Kx Tr Mg K23 K22 K27 K24 KA KB KI KP KR
abbrev s_sread : Stmt := inClass (topS 19) 6
theorem sc_sread : FnScope ["cls", "text", "fields", "word"] ["cls", "text"] (defScope s_sread) := ⟨rfl, rfl, rfl, by decide +kernel, rfl, by decide +kernel, by decide +kernel⟩
theorem tr_sread {P : Program} {w : World} {K : PySem.W.Frag} {mg : Str → Option Value} {base : Heap} {f : Addr} {D_InvalidSchema : Addr} {D_InvalidText : Addr} {C : Addr} (T : Blt mg) (dS : SchF P w K mg base C 4 (F_initX D_InvalidSchema) (F_slen C) (F_sflds C)) (dI : InsC K mg "Schema" C) (dE_InvalidText : Er1 P w K mg base "InvalidText" D_InvalidText "line" "line" 2) (mE_InvalidSchema : mg "InvalidSchema" = some (.ref D_InvalidSchema)) (tE_InvalidSchema : PySem.W.exmOne K (.ref D_InvalidSchema) (.ref D_InvalidSchema) = some true) (kn_str : PySem.W.kitOne K (.ref C) (.type "str") = some false) (tl_InvalidSchema : ∀ c, Lax mg c → PySem.W.exmOne K c (.ref D_InvalidSchema) = some false) (dH_InvalidText : ErH P w K mg base "InvalidText" D_InvalidText "line" "line" 2) (lx_InvalidText : Lax mg (.ref D_InvalidText)) :
    ∀ (cdv : Value) (A : Around) (outer : List Env) (s : Shared) (H : Hp) (E : XK), Room 5 (A.deeper (envOfC "Schema.read" (defScope s_sread) s.heap.objs.size f cdv)) → TrB (cxOf (CXL P w mg) P w K mg base ["cls", "text", "fields", "word"] "Schema.read" (defScope s_sread) f cdv A outer s H E) (defBody s_sread) (fb_sread C D_InvalidSchema D_InvalidText) := by
  exact fun cdv A outer s H E hr => (TbW.run (tw_cons (ts_if (xt_not (xt_val (xe_isT dI kn_str (by rfl) T.isinstance (by decide +kernel) (pe_bltn (v := .ty "str") (by rfl) T.str (by decide +kernel) rfl) (xe_var 1 (pv 1))))) (TbW.run (tw_one (ts_raise1 dE_InvalidText ⟨rfl, rfl, rfl, rfl, rfl⟩ rfl hr (by decide) (by rfl) (TaW.run (xw_cons xe_int xw_nil))))) tb_nil) (tw_cons (ts_lc 2 (own := [("word", 3)]) (ti_list (xe_split (xe_var 1 (pv 1)) (TaW.run (xw_cons xe_str xw_nil)))) rfl sc_sread.nd rfl rfl (sw_true rfl rfl rfl (by decide +kernel)) (blkOk_by (N := ["cls", "text", "fields", "word"]) (sc := defScope s_sread) (by decide +kernel)) (fun _ _ _ _ _ => (tg_name 3 sc_sread.nd rfl (by first | exact .inl rfl | exact .inr rfl))) (fun _ _ _ _ _ => (xe_tuple (by rfl) T.tuple (TaW.run (xw_cons (xe_split (xe_var 3 (pv 3)) (TaW.run (xw_cons xe_str xw_nil))) xw_nil))))) (tw_one (ts_tryR rfl rfl (by rfl) mE_InvalidSchema tE_InvalidSchema tl_InvalidSchema (fun z e => by rw [e]; exact lx_InvalidText) (L2H.passesAt_of rfl) (fun pn xe => (TbW.run (tw_one (ts_ret (xe_mkV 0 dS ⟨rfl, rfl, rfl, rfl, rfl⟩ hr (by decide) rfl (by first | exact .inl rfl | exact .inr (.inl rfl)) (TaW.run (xw_cons (xe_frz 2 (pv 2)) xw_nil))))))) (fun a oe pn hot => TbW.run (tw_one (ts_raiseF dH_InvalidText ⟨rfl, rfl, rfl, rfl, rfl⟩ lx_InvalidText hot (L2H.roomH_mark hr _) (by decide) (by rfl) (TaW.run (xw_cons xe_int xw_nil))))))))))
end K10
set_option Elab.async false
set_option linter.all false
set_option maxRecDepth 100000
namespace K10x
open PySem PySem.Spec PyProof.Rows L2 Kx Kz Kc
def topS (i : Nat) : Stmt := PySem.Challenge.pw_mergereach_k10_schema_texts.main.body.getD i (.Pass ⟨0, 0, 0, 0⟩)
abbrev sPot : Stmt := topS 21
abbrev sDraw : Stmt := topS 22
theorem scPot : FnScope ["_law_script", "_law_k", "_law_digits"] ["_law_script", "_law_k"] (defScope sPot) := ⟨rfl, rfl, rfl, by decide +kernel, rfl, by decide +kernel, by decide +kernel⟩
theorem scDraw : FnScope ["_law_pot_here", "_law_many", "_law_digit"] ["_law_pot_here", "_law_many"] (defScope sDraw) := ⟨rfl, rfl, rfl, by decide +kernel, rfl, by decide +kernel, by decide +kernel⟩
structure Tx (mg : Str → Option Value) : Prop where
  len : mg "len" = none
  isi : mg "isinstance" = none
  str : mg "str" = none
  all : mg "all" = none
  mx : mg "max" = none
  mn : mg "min" = none
  abs : mg "abs" = none
  dm : mg "divmod" = none
  rng : mg "range" = none
  rpr : mg "repr" = none
  lst : mg "list" = none
  tup : mg "tuple" = none
  zip : mg "zip" = none
  int : mg "int" = none
  bool : mg "bool" = none
  dict : mg "dict" = none
  enum : mg "enumerate" = none
section
variable {K : PySem.W.Frag} {mg : Str → Option Value} {P : Program} {base : Heap} {w : World}
def spPot (K : PySem.W.Frag) : Sp := fun vs H Q _ => ∃ (a : Addr) (ns : List Int) (k : Nat), vs = [.ref a, .int k] ∧ SqL K H a (ns.map V.int) ∧ k < 100 ∧
  ∀ H' p, Same H H' → H p = none → Pot H' p → Q (.ref p) H'
theorem ok_pot {f : Addr} {fd : FuncData} {k : Nat} (F : Fun K "_law_pot" "_law_pot" sPot f fd) (T : Tx mg) :
    FnOk P w K mg base CX0 (k + 1) f fd ["_law_script", "_law_k"] (spPot K) := by
  refine F.ok scPot (fun vs H Q E h => ?_) (fun cdv A outer s H vs Q E hr h => ?_)
  · obtain ⟨a, ns, k, rfl, _⟩ := h
    rfl
  · obtain ⟨a, ns, k, rfl, hS, hk, q⟩ := h
    refine ⟨_, pss_cons (ps_set (i := 2) scPot.nd rfl (.inl rfl) (pe_ifExp (pt_cmpR op_lt (pv 1) (pe_callB call_len_seq (by rfl) T.len PySem.boot_len (pa_cons (pv 0) pa_nil)) (nomark _))
          (pe_ix ix_list (pv 0) (pv 1) (fun _ _ => rfl)) pe_int))
      (pss_one (ps_ret (pe_lst (pa_cons (pe_callB (call_max2 rfl) (by rfl) T.mx (by decide +kernel) (pa_cons pe_int (pa_cons (pe_op op_sub (pe_callB call_abs (by rfl) T.abs (by decide +kernel) (pa_cons (pv 2) pa_nil)) (pe_op op_pow pe_int pe_int)) pa_nil)))
        (pa_cons (pe_op op_mod (pe_op op_add (pe_op op_add (pe_op op_mul (pe_op op_mod (pe_callB call_abs (by rfl) T.abs (by decide +kernel) (pa_cons (pv 2) pa_nil)) pe_int) pe_int) (pe_op op_mul pe_int (pv 1))) pe_int) pe_int) pa_nil))))), ?_⟩
    refine ⟨.int k, rfl, .ref a, rfl, a, _, rfl, .inl hS, _, _, rfl, rfl, _, rfl, ?_⟩
    have tail : ∀ x y : Int, 0 ≤ x → 0 ≤ y → y < 2147483647 → ∀ p, H p = none → Q (.ref p) (upd H p (.lst [.int x, .int y])) :=
      fun x y h1 h2 h3 p np => q _ p (same_new np) np ⟨x, y, h1, h2, h3, upd_same⟩
    have fin : ∀ d : Int, 0 ≤ (if d < 0 then -d else d) := fun d => by split <;> omega
    have two : 2 ≤ sizeLine := by decide
    by_cases c : (k : Int) < ((ns.map V.int).length : Int)
    · have hk2 : k < ns.length := by
        rw [List.length_map] at c
        omega
      rw [decide_eq_true c]
      refine iteT ⟨.ref a, rfl, .int k, rfl, a, _, k, .int ns[k], rfl, rfl, hS, atI_nat (by rw [List.getElem?_map, List.getElem?_eq_getElem hk2]; rfl), ?_⟩
      generalize ns[k] = d
      refine ⟨.int d, rfl, d, rfl, 10, 18, rfl, rfl, ⟨by decide, by decide, by decide⟩, _, _, rfl, rfl, 0, _, rfl, .int d, rfl, d, rfl, _, _, rfl, rfl, (by show (0 : Int) < 2147483587; decide), _, _, rfl, rfl, .inr ⟨by decide, by decide⟩,
        .int k, rfl, _, _, rfl, rfl, .inl ⟨by decide, by decide⟩, _, _, rfl, rfl, _, _, rfl, rfl, _, _, rfl, rfl, (by show (0 : Int) < 2147483647; decide), two, tail _ _ ?_ ?_ ?_⟩
      · split <;> omega
      · exact Int.emod_nonneg _ (by decide)
      · exact Int.emod_lt_of_pos _ (by decide)
    · rw [decide_eq_false c]
      refine iteF ?_
      refine ⟨.int 0, rfl, 0, rfl, 10, 18, rfl, rfl, ⟨by decide, by decide, by decide⟩, _, _, rfl, rfl, 0, _, rfl, .int 0, rfl, 0, rfl, _, _, rfl, rfl, (by show (0 : Int) < 2147483587; decide), _, _, rfl, rfl, .inr ⟨by decide, by decide⟩,
        .int k, rfl, _, _, rfl, rfl, .inl ⟨by decide, by decide⟩, _, _, rfl, rfl, _, _, rfl, rfl, _, _, rfl, rfl, (by show (0 : Int) < 2147483647; decide), two, tail _ _ ?_ ?_ ?_⟩
      · split <;> omega
      · exact Int.emod_nonneg _ (by decide)
      · exact Int.emod_lt_of_pos _ (by decide)
def spDraw : Sp := fun vs H Q _ => ∃ (p : Addr) (m : Int), vs = [.ref p, .int m] ∧ Pot H p ∧ 0 < m ∧ m < 1073741824 ∧
  ∀ H' d, But p H H' → Pot H' p → 0 ≤ d → d < m → Q (.int d) H'
theorem ok_draw {f : Addr} {fd : FuncData} {k : Nat} (F : Fun K "_law_draw" "_law_draw" sDraw f fd) (T : Tx mg) :
    FnOk P w K mg base CX0 (k + 1) f fd ["_law_pot_here", "_law_many"] spDraw := by
  refine F.ok scDraw (fun vs H Q E h => ?_) (fun cdv A outer s H vs Q E hr h => ?_)
  · obtain ⟨p, m, rfl, _⟩ := h
    rfl
  · obtain ⟨p, m, rfl, ⟨x, y, hx, hy, hy2, hp⟩, m0, m1, q⟩ := h
    refine ⟨_, pss_cons (ps_if (pt_cmpR op_gt (pe_ix ix_list (pv 0) pe_int (fun _ _ => rfl)) pe_int (nomark _))
        (pss_cons (ps_asg (pe_callB call_divmod (by rfl) T.dm (by decide +kernel) (pa_cons (pe_ix ix_list (pv 0) pe_int (fun _ _ => rfl)) (pa_cons (pv 1) pa_nil)))
            (pg_tup rfl (pgs_cons (pg_sub (pv 0) pe_int set_list) (pgs_cons (pg_name (i := 2) scDraw.nd rfl (.inl rfl)) pgs_nil))))
          (pss_one (ps_ret (pv 2)))) pss_nil)
      (pss_cons (ps_asg (pe_op op_mod (pe_op op_add (pe_op op_mul (pe_ix ix_list (pv 0) pe_int (fun _ _ => rfl)) pe_int) pe_int) pe_int) (pg_sub (pv 0) pe_int set_list))
      (pss_one (ps_ret (pe_op op_mod (pe_op op_fdiv (pe_op op_mod (pe_op op_mul (pe_ix ix_list (pv 0) pe_int (fun _ _ => rfl)) (pe_ix ix_list (pv 0) pe_int (fun _ _ => rfl))) pe_int) pe_int) (pv 1))))), ?_⟩
    have sq : SqL K H p [.int x, .int y] := .inl (.inl hp)
    refine ⟨.ref p, rfl, p, _, 0, .int x, rfl, rfl, sq, atI_nat (j := 0) rfl, x, 0, rfl, rfl, _, rfl, ?_⟩
    by_cases c : x > 0
    · rw [decide_eq_true c]
      refine iteT ⟨.ref p, rfl, p, _, 0, .int x, rfl, rfl, sq, atI_nat (j := 0) rfl, .int m, rfl, x, m, rfl, ⟨m0, m1⟩, fun T nT => ?_⟩
      have npT : p ≠ T := ne_of_none hp nT
      have hp2 : (upd H T (.tup [.int (x / m), .int (x % m)])) p = some (.lst [.int x, .int y]) := by
        rw [upd_ne npT]
        exact hp
      refine ⟨T, [.int (x / m), .int (x % m)], rfl, .inl (.inl upd_same), rfl, .int (x / m), [.int (x % m)], rfl, .ref p, rfl, p, _, 0, 0, rfl, rfl, hp2, rfl, .int (x % m), [], rfl, rfl, .int (x % m), rfl, ?_⟩
      exact q _ _ (But.put (But.new But.refl nT)) ⟨x / m, y, Int.ediv_nonneg hx (Int.le_of_lt m0), hy, hy2, upd_same⟩ (Int.emod_nonneg _ (by omega)) (Int.emod_lt_of_pos _ m0)
    · rw [decide_eq_false c]
      refine iteF ?_
      have hy3 := Int.emod_nonneg (y * 39373 + 12227) (b := 2147483629) (by decide)
      have hy4 := Int.emod_lt_of_pos (y * 39373 + 12227) (b := 2147483629) (by decide)
      refine ⟨.ref p, rfl, p, _, 1, .int y, rfl, rfl, sq, atI_nat (j := 1) rfl, _, _, rfl, rfl, .inr ⟨by decide, by decide⟩, _, _, rfl, rfl, _, _, rfl, rfl, (by show (0 : Int) < 2147483629; decide),
        .ref p, rfl, p, _, 1, 1, rfl, rfl, hp, rfl, ?_⟩
      have sq2 : SqL K (upd H p (.lst ([.int x, .int y].set 1 (.int ((y * 39373 + 12227) % 2147483629))))) p [.int x, .int ((y * 39373 + 12227) % 2147483629)] := .inl (.inl upd_same)
      refine ⟨.ref p, rfl, p, _, 1, .int ((y * 39373 + 12227) % 2147483629), rfl, rfl, sq2, atI_nat (j := 1) rfl, .ref p, rfl, p, _, 1, .int ((y * 39373 + 12227) % 2147483629), rfl, rfl, sq2, atI_nat (j := 1) rfl, _, _, rfl, rfl, .inl ⟨by omega, by omega⟩, _, _, rfl, rfl, (by show (0 : Int) < 2147483563; decide),
        _, _, rfl, rfl, ⟨by decide, by decide⟩, .int m, rfl, _, _, rfl, rfl, m0, ?_⟩
      exact q _ _ (But.put But.refl) ⟨x, ((y * 39373 + 12227) % 2147483629), hx, hy3, by omega, upd_same⟩ (Int.emod_nonneg _ (by omega)) (Int.emod_lt_of_pos _ m0)
end
end K10x
set_option Elab.async false
set_option linter.all false
set_option maxRecDepth 100000
namespace K10
open PySem PySem.Spec PyProof.Rows L2 Evl Kc Kz Kx Tr Mg
abbrev sKept : Stmt := topS 3
theorem scKept : FnScope ["value", "levels", "item", "key"] ["value", "levels"] (defScope sKept) := ⟨rfl, rfl, rfl, by decide +kernel, rfl, by decide +kernel, by decide +kernel⟩
structure TkE (mg : Str → Option Value) : Prop where
  isi : mg "isinstance" = none
  lst : mg "list" = none
  tup : mg "tuple" = none
  dct : mg "dict" = none
  sup : mg "super" = none
theorem flat_kits {K : PySem.W.Frag} {H : Hp} {v : V} (t : FlatV v) : ∃ u, TyX K H v u ∧ PySem.W.kitOne K u (.type "list") = some false ∧ PySem.W.kitOne K u (.type "tuple") = some false ∧ PySem.W.kitOne K u (.type "dict") = some false := by
  cases t with
  | non => exact ⟨_, .base .non, kit_ty (show kitB "NoneType" "list" = some false by decide +kernel), kit_ty (show kitB "NoneType" "tuple" = some false by decide +kernel), kit_ty (show kitB "NoneType" "dict" = some false by decide +kernel)⟩
  | bl b => exact ⟨_, .base (.bl b), kit_ty (show kitB "bool" "list" = some false by decide +kernel), kit_ty (show kitB "bool" "tuple" = some false by decide +kernel), kit_ty (show kitB "bool" "dict" = some false by decide +kernel)⟩
  | int i => exact ⟨_, .base (.int i), kit_ty (show kitB "int" "list" = some false by decide +kernel), kit_ty (show kitB "int" "tuple" = some false by decide +kernel), kit_ty (show kitB "int" "dict" = some false by decide +kernel)⟩
  | str z => exact ⟨_, .base (.str z), kit_ty (show kitB "str" "list" = some false by decide +kernel), kit_ty (show kitB "str" "tuple" = some false by decide +kernel), kit_ty (show kitB "str" "dict" = some false by decide +kernel)⟩
section
variable {K : PySem.W.Frag} {mg : Str → Option Value} {P : Program} {base : Heap} {w : World}
theorem ok_kf {f : Addr} {fd : FuncData} {k : Nat} {CX : CXT} (F : FunD K "kept" "kept" (defArgs sKept) (defBody sKept) (defScope sKept) [.int 5] [] f fd) (T : TkE mg) : FnOk P w K mg base CX (k + 1) f fd ["value", "levels"] spKf := by
  refine F.ok scKept (fun vs H Q E h => ?_) (fun cdv A outer s H vs Q E hr h => ?_)
  · obtain ⟨v, n, rfl, _⟩ := h
    rfl
  · obtain ⟨v, n, rfl, fl, q⟩ := h
    refine ⟨_, pss_cons (ps_if (pt_cmpR op_eq (pv 1) pe_int (nomark _)) (pss_one (ps_ret (pv 0))) pss_nil)
      (pss_cons (ps_if (pt_val (pe_callB call_isi (by rfl) T.isi (by decide +kernel) (pa_cons (pv 0) (pa_cons (pe_bltn (v := .ty "list") (by rfl) T.lst (by decide +kernel) rfl) pa_nil)))) (pss_one ps_never) pss_nil)
      (pss_cons (ps_if (pt_val (pe_callB call_isi (by rfl) T.isi (by decide +kernel) (pa_cons (pv 0) (pa_cons (pe_bltn (v := .ty "tuple") (by rfl) T.tup (by decide +kernel) rfl) pa_nil)))) (pss_one ps_never) pss_nil)
      (pss_cons (ps_if (pt_val (pe_callB call_isi (by rfl) T.isi (by decide +kernel) (pa_cons (pv 0) (pa_cons (pe_bltn (v := .ty "dict") (by rfl) T.dct (by decide +kernel) rfl) pa_nil)))) (pss_one ps_never) pss_nil)
      (pss_one (ps_ret (pv 0)))))), ?_⟩
    obtain ⟨u, ty, k1, k2, k3⟩ := flat_kits (K := K) (H := H) fl
    refine ⟨.int n, rfl, rfl, _, rfl, ?_⟩
    by_cases c : V.int n = V.int 0
    · rw [decide_eq_true c]
      exact iteT ⟨v, rfl, q⟩
    · rw [decide_eq_false c]
      refine iteF ⟨v, rfl, v, .ty "list", u, .type "list", false, rfl, .ty "list", ty, k1, false, rfl, iteF ?_⟩
      refine ⟨v, rfl, v, .ty "tuple", u, .type "tuple", false, rfl, .ty "tuple", ty, k2, false, rfl, iteF ?_⟩
      refine ⟨v, rfl, v, .ty "dict", u, .type "dict", false, rfl, .ty "dict", ty, k3, false, rfl, iteF ?_⟩
      exact ⟨v, rfl, q⟩
theorem kept_bd {f : Addr} {fd : FuncData} (F : FunD K "kept" "kept" (defArgs sKept) (defBody sKept) (defScope sKept) [.int 5] [] f fd) : ∃ ds, Vals [.int 5] ds ∧ Binds K fd ["value", "levels"] ds :=
  F.binds1 1 0 (by simp) rfl fun T kV doc pm an cdv ct us its hu hi => match us, its, hu, hi with | [_], [_], _, _ => ⟨_, rfl, rfl⟩
theorem keptD {fkept tpK : Addr} {ocK kVK dcK pmK cdK ctK ocT : Value} {odK anK odT : Option Addr} {slK slT : Array (Option Value)} {nT : Nat} {tkT : Tok}
    (lkept : K.lookup fkept = some ⟨ocK, odK, .func (PySem.W.fnOf "kept" "kept" (defArgs sKept) (defBody sKept) (defScope sKept) (.ref tpK) kVK dcK pmK anK cdK ctK), slK⟩) (ckept : PySem.W.codeIn K cdK "kept" = true) (kkept : PySem.W.keepIn K (.ref fkept) = true) (tkept : K.lookup tpK = some ⟨ocT, odT, .seq #[.int 5 tkT] nT, slT⟩) :
    FunD K "kept" "kept" (defArgs sKept) (defBody sKept) (defScope sKept) [.int 5] [] fkept (PySem.W.fnOf "kept" "kept" (defArgs sKept) (defBody sKept) (defScope sKept) (.ref tpK) kVK dcK pmK anK cdK ctK) :=
  ⟨⟨_, _, _, _, _, _, _, _, _, _, rfl, lkept, ckept, .inr ⟨nofun, tpK, _, [.int 5 tkT], nT, rfl, tkept, rfl, .cons ⟨_, rfl⟩ .nil⟩, .inl rfl⟩, kkept⟩
theorem ok_kfH {f : Addr} {fd : FuncData} {k : Nat} {CX : CXT} (F : FunD K "kept" "kept" (defArgs sKept) (defBody sKept) (defScope sKept) [.int 5] [] f fd) (T : TkE mg) : L2H.FnH P w K mg base CX (k + 1) f fd ["value", "levels"] spKf := by
  refine okD_H F scKept (fun vs H Q E h => ?_) (fun cdv A outer s H vs Q E p _ hr h => ?_)
  · obtain ⟨v, n, rfl, _⟩ := h
    rfl
  · obtain ⟨v, n, rfl, fl, q⟩ := h
    refine ⟨_, pss_cons (ps_if (pt_cmpR op_eq (pv 1) pe_int (nomark _)) (pss_one (ps_ret (pv 0))) pss_nil)
      (pss_cons (ps_if (pt_val (pe_callB call_isi (by rfl) T.isi (by decide +kernel) (pa_cons (pv 0) (pa_cons (pe_bltn (v := .ty "list") (by rfl) T.lst (by decide +kernel) rfl) pa_nil)))) (pss_one ps_never) pss_nil)
      (pss_cons (ps_if (pt_val (pe_callB call_isi (by rfl) T.isi (by decide +kernel) (pa_cons (pv 0) (pa_cons (pe_bltn (v := .ty "tuple") (by rfl) T.tup (by decide +kernel) rfl) pa_nil)))) (pss_one ps_never) pss_nil)
      (pss_cons (ps_if (pt_val (pe_callB call_isi (by rfl) T.isi (by decide +kernel) (pa_cons (pv 0) (pa_cons (pe_bltn (v := .ty "dict") (by rfl) T.dct (by decide +kernel) rfl) pa_nil)))) (pss_one ps_never) pss_nil)
      (pss_one (ps_ret (pv 0)))))), ?_⟩
    obtain ⟨u, ty, k1, k2, k3⟩ := flat_kits (K := K) (H := H) fl
    refine ⟨.int n, rfl, rfl, _, rfl, ?_⟩
    by_cases c : V.int n = V.int 0
    · rw [decide_eq_true c]
      exact iteT ⟨v, rfl, q⟩
    · rw [decide_eq_false c]
      refine iteF ⟨v, rfl, v, .ty "list", u, .type "list", false, rfl, .ty "list", ty, k1, false, rfl, iteF ?_⟩
      refine ⟨v, rfl, v, .ty "tuple", u, .type "tuple", false, rfl, .ty "tuple", ty, k2, false, rfl, iteF ?_⟩
      refine ⟨v, rfl, v, .ty "dict", u, .type "dict", false, rfl, .ty "dict", ty, k3, false, rfl, iteF ?_⟩
      exact ⟨v, rfl, q⟩
abbrev sI_InvalidText : Stmt := inClass (topS 7) 0
theorem scI_InvalidText : NdefX.NScope ["self", "line", "__class__"] ["self", "line"] ["__class__"] (defScope sI_InvalidText) := NdefX.nscope_by (by decide +kernel)
theorem initW_InvalidText {D fi cda cc : Addr} {oi kv dc pm ct ol oe : Value} {di an dl de : Option Addr} {si sl se : Array (Option Value)} {vs : Array Value} {file : Str} {tf : Tok}
    (e9 : K.lookup fi = some ⟨oi, di, .func (PySem.W.ksFn "__init__" "InvalidText.__init__" (defArgs sI_InvalidText) (defBody sI_InvalidText) (defScope sI_InvalidText) .none kv dc pm an (.ref cda) ct cc), si⟩) (eA : PySem.W.codeIn K (.ref cda) "InvalidText.__init__" = true)
    (eB : K.lookup cda = some ⟨ol, dl, .fields vs, sl⟩) (eC : vs[2]? = some (.str file tf)) (eD : ((P.main.file : Str) == file) = true) (eE : K.lookup cc = some ⟨oe, de, .cell (some (.ref D)), se⟩) (eF : (P.main.scope.names.lookup ("super" : Str)).isSome = false)
    (eG : PySem.W.ks_superIn K D D "__init__" = some (some (.builtin "ValueError.__init__"))) (eH : PySem.W.mroIn K D (.ref D) = some true) (eI : PySem.W.subIn K (.ref D) (.type "ValueError") = some true) (eo : PySem.W.nsIn K cStatics "thirdparty.any" = some none) :
    InitW P K "InvalidText.__init__" (defArgs sI_InvalidText) (defBody sI_InvalidText) (defScope sI_InvalidText) fi D (PySem.W.ksFn "__init__" "InvalidText.__init__" (defArgs sI_InvalidText) (defBody sI_InvalidText) (defScope sI_InvalidText) .none kv dc pm an (.ref cda) ct cc) "ValueError" "ValueError.__init__" :=
  ⟨⟨_, _, _, _, _, _, _, _, _, _, rfl, e9, eA, ⟨⟨_, _, _, _, _, e9, rfl, rfl⟩, ⟨_, _, _, _, _, _, eB, eC, eD⟩, ⟨_, _, _, eE⟩, eF, rfl, rfl, rfl, rfl, eG, eH, eI, eo⟩⟩⟩
theorem er_InvalidText {fi fK D : Addr} {fd fdK : FuncData} (FK : FunD K "kept" "kept" (defArgs sKept) (defBody sKept) (defScope sKept) [.int 5] [] fK fdK) (hm : mg "kept" = some (.ref fK)) (T : TkE mg)
    (F : InitW P K "InvalidText.__init__" (defArgs sI_InvalidText) (defBody sI_InvalidText) (defScope sI_InvalidText) fi D fd "ValueError" "ValueError.__init__") (O : OexB K D "ValueError" "ValueError.__new__" "ValueError.__init__" (tailOf "ValueError")) (mE : mg "InvalidText" = some (.ref D)) (e7 : PySem.W.findIn K (.ref D) "__init__" = some (some (.ref fi))) (e8 : PySem.W.typeIn K (.ref fi) = some (.type "function")) (no : PySem.W.findIn K (.ref D) "line" = some none) :
    Er1 P w K mg base "InvalidText" D "line" "line" 2 := by
  obtain ⟨ds, rd, bd⟩ := kept_bd FK
  exact ⟨⟨_, _, _, _, O⟩, mE, fi, fd, e7, e8, ok_err1 F scI_InvalidText O T.sup no (ok_kf (k := 0) FK T) hm FK.kp bd rd kf_mono rfl (by decide) (by decide) rfl (fun env => ⟨_, rfl⟩), F.binds fun _ _ _ _ _ _ _ us hl => match us, hl with | [_, _], _ => rfl⟩
theorem erH_InvalidText {fi fK D : Addr} {fd fdK : FuncData} (FK : FunD K "kept" "kept" (defArgs sKept) (defBody sKept) (defScope sKept) [.int 5] [] fK fdK) (hm : mg "kept" = some (.ref fK)) (T : TkE mg)
    (F : InitW P K "InvalidText.__init__" (defArgs sI_InvalidText) (defBody sI_InvalidText) (defScope sI_InvalidText) fi D fd "ValueError" "ValueError.__init__") (O : OexB K D "ValueError" "ValueError.__new__" "ValueError.__init__" (tailOf "ValueError")) (mE : mg "InvalidText" = some (.ref D)) (e7 : PySem.W.findIn K (.ref D) "__init__" = some (some (.ref fi))) (e8 : PySem.W.typeIn K (.ref fi) = some (.type "function")) (no : PySem.W.findIn K (.ref D) "line" = some none) :
    ErH P w K mg base "InvalidText" D "line" "line" 2 := by
  obtain ⟨ds, rd, bd⟩ := kept_bd FK
  exact ⟨⟨_, _, _, _, O⟩, mE, fi, fd, e7, e8, ok_err1H F scI_InvalidText O T.sup no (ok_kfH (k := 0) FK T) hm FK.kp bd rd kf_mono rfl (by decide) (by decide) rfl (fun env => ⟨_, rfl⟩), F.binds fun _ _ _ _ _ _ _ us hl => match us, hl with | [_, _], _ => rfl⟩
abbrev sI_InvalidSchema : Stmt := inClass (topS 5) 0
theorem scI_InvalidSchema : NdefX.NScope ["self", "problem", "index", "__class__"] ["self", "problem", "index"] ["__class__"] (defScope sI_InvalidSchema) := NdefX.nscope_by (by decide +kernel)
theorem initW_InvalidSchema {D fi cda cc : Addr} {oi kv dc pm ct ol oe : Value} {di an dl de : Option Addr} {si sl se : Array (Option Value)} {vs : Array Value} {file : Str} {tf : Tok}
    (e9 : K.lookup fi = some ⟨oi, di, .func (PySem.W.ksFn "__init__" "InvalidSchema.__init__" (defArgs sI_InvalidSchema) (defBody sI_InvalidSchema) (defScope sI_InvalidSchema) .none kv dc pm an (.ref cda) ct cc), si⟩) (eA : PySem.W.codeIn K (.ref cda) "InvalidSchema.__init__" = true)
    (eB : K.lookup cda = some ⟨ol, dl, .fields vs, sl⟩) (eC : vs[2]? = some (.str file tf)) (eD : ((P.main.file : Str) == file) = true) (eE : K.lookup cc = some ⟨oe, de, .cell (some (.ref D)), se⟩) (eF : (P.main.scope.names.lookup ("super" : Str)).isSome = false)
    (eG : PySem.W.ks_superIn K D D "__init__" = some (some (.builtin "ValueError.__init__"))) (eH : PySem.W.mroIn K D (.ref D) = some true) (eI : PySem.W.subIn K (.ref D) (.type "ValueError") = some true) (eo : PySem.W.nsIn K cStatics "thirdparty.any" = some none) :
    InitW P K "InvalidSchema.__init__" (defArgs sI_InvalidSchema) (defBody sI_InvalidSchema) (defScope sI_InvalidSchema) fi D (PySem.W.ksFn "__init__" "InvalidSchema.__init__" (defArgs sI_InvalidSchema) (defBody sI_InvalidSchema) (defScope sI_InvalidSchema) .none kv dc pm an (.ref cda) ct cc) "ValueError" "ValueError.__init__" :=
  ⟨⟨_, _, _, _, _, _, _, _, _, _, rfl, e9, eA, ⟨⟨_, _, _, _, _, e9, rfl, rfl⟩, ⟨_, _, _, _, _, _, eB, eC, eD⟩, ⟨_, _, _, eE⟩, eF, rfl, rfl, rfl, rfl, eG, eH, eI, eo⟩⟩⟩
theorem er_InvalidSchema {fi fK D : Addr} {fd fdK : FuncData} (FK : FunD K "kept" "kept" (defArgs sKept) (defBody sKept) (defScope sKept) [.int 5] [] fK fdK) (hm : mg "kept" = some (.ref fK)) (T : TkE mg)
    (F : InitW P K "InvalidSchema.__init__" (defArgs sI_InvalidSchema) (defBody sI_InvalidSchema) (defScope sI_InvalidSchema) fi D fd "ValueError" "ValueError.__init__") (O : OexB K D "ValueError" "ValueError.__new__" "ValueError.__init__" (tailOf "ValueError")) (mE : mg "InvalidSchema" = some (.ref D)) (e7 : PySem.W.findIn K (.ref D) "__init__" = some (some (.ref fi))) (e8 : PySem.W.typeIn K (.ref fi) = some (.type "function")) (no : PySem.W.findIn K (.ref D) "problem" = some none) (no2 : PySem.W.findIn K (.ref D) "index" = some none) :
    Er2 P w K mg base "InvalidSchema" D "problem" "index" "problem" "index" 2 := by
  obtain ⟨ds, rd, bd⟩ := kept_bd FK
  exact ⟨⟨_, _, _, _, O⟩, mE, fi, fd, e7, e8, ok_err2 F scI_InvalidSchema O T.sup no no2 (ok_kf (k := 0) FK T) hm FK.kp bd rd kf_mono rfl (by decide) (by decide) rfl (by decide) (by decide) rfl (fun env => ⟨_, rfl⟩), F.binds fun _ _ _ _ _ _ _ us hl => match us, hl with | [_, _, _], _ => rfl⟩
end
end K10
set_option Elab.async false
set_option linter.all false
set_option maxRecDepth 100000
namespace KR
open PySem PySem.Spec PyProof.Rows L2 Evl Kc Kz Kx Tr Mg K23 K22 K27 K24 KA KB KI TL
open KP (fldT rowsT fldT_ok sum_le three_low)
theorem imp_names (C : Addr) : ∀ as k x, as.length = 1 → F_names C as k x → KR.fb_snames C (start0 3 as) (Ok k) fun c _ => x c := by
  rintro _ k x _ ⟨rows, rfl, hr, hk⟩
  refine ⟨rfl, _, rfl, rfl, ?_⟩
  refine lcF_by (fun i acc ρ => ρ = start0 3 [schO C rows] ∧ acc = sts ((rows.take i).map (·.1))) (fun i d acc ρ hd hI C' hC => ?_) (fun acc ρ hI => ?_) ⟨rfl, rfl⟩
  · obtain ⟨rfl, rfl⟩ := hI
    obtain ⟨r, hr1, rfl⟩ := row_get hd
    refine ⟨rfl, ?_⟩
    refine ⟨?_, hC _ _ ⟨rfl, ?_⟩⟩
    · rw [List.length_map, List.length_map]
      exact small1000 (Nat.le_trans (List.length_take_le' _ _) (by omega))
    · rw [take_succ hr1, List.map_append, sts_app]
      rfl
  · obtain ⟨rfl, rfl⟩ := hI
    rw [List.length_map, List.take_length]
    exact hk
theorem imp_snames (C : Addr) : ∀ as k x, as.length = 1 → F_names C as k x → KR.fb_snames C (start0 3 as) (Ok k) fun c _ => x c := imp_names C
theorem imp_noteOf : ∀ as k x, as.length = 1 → F_noteOf as k x → KR.fb_law_note_of (start0 3 as) (Ok k) fun c _ => x c := by
  rintro _ k x _ ⟨rows, rfl, hr, ht, hk⟩
  refine ⟨⟨_, rfl⟩, rfl, ?_⟩
  refine lcF_by (fun i acc ρ => ρ = start0 3 [.dat (flD rows)] ∧ acc = sts ((rows.take i).map fldT)) (fun i d acc ρ hd hI C' hC => ?_) (fun acc ρ hI => ?_) ⟨rfl, rfl⟩
  · obtain ⟨rfl, rfl⟩ := hI
    obtain ⟨r, hr1, rfl⟩ := row_get hd
    have tr := ht r (List.mem_of_getElem? hr1)
    have l1 := (word_parts tr.1).2.1
    have l2 := (three_low tr.2).1
    have big : 1000 ≤ sizeLine := by decide
    refine ⟨rfl, ?_⟩
    refine ⟨(show r.1.length + (":" : Str).length ≤ sizeLine by show _ + 1 ≤ _; omega), (show (r.1 ++ ":").length + r.2.length ≤ sizeLine by rw [app_len]; show _ + 1 + _ ≤ _; omega), ?_, hC _ _ ⟨rfl, ?_⟩⟩
    · rw [List.length_map, List.length_map]
      exact small1000 (Nat.le_trans (List.length_take_le' _ _) (by omega))
    · rw [take_succ hr1, List.map_append, sts_app]
      rfl
  · obtain ⟨rfl, rfl⟩ := hI
    rw [List.length_map, List.take_length]
    refine strs_of ⟨?_, hk⟩
    have := sum_le (ys := rows.map fldT) (m := 16) fun z hz => by
      obtain ⟨r, h, rfl⟩ := List.mem_map.mp hz
      exact (fldT_ok (ht r h)).1
    rw [List.length_map] at this ⊢
    show _ + _ * 1 ≤ _
    omega
theorem joinL_count (s : Nat) : ∀ l : List (List Nat), l.length ≤ (joinL [s] l).count s + 1
  | [] => Nat.zero_le _
  | [p] => Nat.le_add_left 1 _
  | p :: q :: r => by
    have ih := joinL_count s (q :: r)
    show (q :: r).length + 1 ≤ (p ++ ([s] ++ joinL [s] (q :: r))).count s + 1
    rw [List.count_append, List.count_append, List.count_singleton_self]
    omega
theorem joinL_part (s : List Nat) : ∀ (l : List (List Nat)) {p : List Nat}, p ∈ l → p.length ≤ (joinL s l).length
  | [], _, h => nomatch h
  | [q], p, h => by
    rw [List.mem_singleton.mp h]
    exact Nat.le_refl _
  | q :: r :: l, p, h => by
    show _ ≤ (q ++ (s ++ joinL s (r :: l))).length
    rw [List.length_append, List.length_append]
    rcases List.mem_cons.mp h with here | h
    · rw [here]
      omega
    · have := joinL_part s (r :: l) h
      omega
theorem words_many {z : Str} (hz : Tz z) : (Txt.split z " ").length ≤ 61 := by
  have e : Str.join " " (Txt.split z " ") = z := StrLaws.join_split z " "
  have h := joinL_count 32 ((Txt.split z " ").map tl)
  have one : tl " " = [32] := by decide +kernel
  have t : tl z = joinL [32] ((Txt.split z " ").map tl) := by
    conv => lhs; rw [← e]
    rw [tl_join, one]
  rw [← t, List.length_map] at h
  have := hz.c
  omega
theorem cut_short {z y p : Str} (h : p ∈ Txt.split z y) : p.length ≤ z.length := by
  have e : Str.join y (Txt.split z y) = z := StrLaws.join_split z y
  have k := joinL_part (tl y) ((Txt.split z y).map tl) (List.mem_map.mpr ⟨p, h, rfl⟩)
  rw [← tl_join, e] at k
  rw [len_tl, len_tl z]
  exact k
theorem cut_many {z y : Str} (hy : y.length = 1) : (Txt.split z y).length ≤ z.length + 1 := by
  obtain ⟨c, ec⟩ : ∃ c, tl y = [c] := by
    rw [len_tl] at hy
    match h : tl y, hy with
    | [c], _ => exact ⟨c, rfl⟩
  have e : Str.join y (Txt.split z y) = z := StrLaws.join_split z y
  have h := joinL_count c ((Txt.split z y).map tl)
  have t : tl z = joinL [c] ((Txt.split z y).map tl) := by
    conv => lhs; rw [← e]
    rw [tl_join, ec]
  rw [← t, List.length_map] at h
  have := List.count_le_length (a := c) (l := tl z)
  rw [len_tl]
  omega
theorem part_ok {w : Str} (h : w.length ≤ 600) : FOk (partT w) := by
  refine ⟨fun d hd => ?_, fun us e => ?_⟩
  · obtain ⟨p, hp, rfl⟩ := List.mem_map.mp hd
    have := cut_short hp
    show p.length ≤ 1000
    omega
  · cases e
    rw [List.length_map]
    have := cut_many (z := w) (y := ":") rfl
    omega
theorem fields_ok {z : Str} (hz : Tz z) : AllOk (fieldsZ z) := fun ds e => by
  cases Option.some.inj e
  refine ⟨by rw [List.length_map]; have := words_many hz; omega, fun d hd => ?_⟩
  obtain ⟨w, hw, rfl⟩ := List.mem_map.mp hd
  exact part_ok (hz.m w hw)
end KR
set_option Elab.async false
set_option linter.all false
set_option maxRecDepth 100000
namespace KR
open PySem PySem.Spec PyProof.Rows L2 Evl Kc Kz Kx Tr Mg K23 K22 K27 K24 KA KB KI TL
theorem imp_readS (C DS DT : Addr) : ∀ as k x, as.length = 2 → F_readS C DT as k x → KR.fb_sread C DS DT (start0 4 as) (Ok k) fun c _ => x c := by
  have big : 2000 ≤ sizeLine := by decide
  rintro _ k x _ (⟨d, rfl, ⟨z, rfl, hz, hk, hx⟩ | ⟨ns, hx⟩⟩ | ⟨rows, rfl, hx⟩)
  · have zl := hz.l
    refine .inr ⟨⟨_, rfl⟩, rfl, (show z.length + 2 ≤ sizeLine by omega), ?_⟩
    refine ⟨rfl, ?_⟩
    refine lcF_by (fun i acc ρ => ρ = start0 4 [.raw (.ref C), .dat (.str z)] ∧ acc = ((Txt.split z " ").take i).map partT) (fun i d acc ρ hd hI C' hC => ?_) (fun acc ρ hI => ?_) ⟨rfl, rfl⟩
    · obtain ⟨rfl, rfl⟩ := hI
      rw [List.getElem?_map] at hd
      obtain ⟨w, hw, rfl⟩ := Option.map_eq_some_iff.mp hd
      have wl := hz.m w (List.mem_of_getElem? hw)
      have wm := words_many hz
      refine pkd rfl .no ?_
      refine ⟨⟨_, rfl⟩, rfl, (show w.length + 2 ≤ sizeLine by omega), ?_⟩
      refine ⟨?_, hC _ _ ⟨rfl, ?_⟩⟩
      · rw [List.length_map]
        exact small1000 (Nat.le_trans (List.length_take_le' _ _) (by omega))
      · rw [take_succ hw, List.map_append]
        rfl
    · obtain ⟨rfl, rfl⟩ := hI
      rw [List.length_map, List.take_length]
      exact ⟨rfl, rfl, rfl, rfl, fieldsZ z, rfl, fields_ok hz, fun p i e => ⟨rfl, rfl, rfl, hx ⟨p, i, e⟩⟩, fun rows e => hk rows e⟩
  · refine .inr ?_
    cases d <;> first | exact ⟨rfl, hx⟩ | cases ns
  · exact .inl ⟨rfl, rfl, hx⟩
/-- what is read, as it was written -/
theorem rows_read {z : Str} {rows : List Mg.Row} (h : judge (fieldsZ z) = .inr rows) : (Txt.split z " ").map partT = rows.map rowD ∧ ∀ r ∈ rows, word r.1 ∧ three r.2 := by
  obtain ⟨a, b⟩ := judge_inr h
  exact ⟨Option.some.inj a, b⟩
theorem imp_met10 (C DT : Addr) : ∀ as k x, as.length = 1 → F_met10 C as k x → KR.fb_law_met C DT (start0 5 as) (Ok k) fun c _ => x c := by
  rintro _ k x _ (⟨d, rfl, hs, hk⟩ | ⟨rows, rfl, hk⟩)
  · refine ⟨sz (by simp), ?_⟩
    cases e : isStr d with
    | false =>
      have m : metS d = .list [.str "line", .int 0] := by
        cases d <;> first | rfl | cases e
      refine ⟨Nat.zero_le 1, rfl, .inl ⟨d, rfl, .inr ⟨e, .inl rfl, rfl, fun a dd => ?_⟩⟩⟩
      exact ⟨⟨rfl, rfl, rfl⟩, ⟨rfl, rfl, rfl⟩, ⟨rfl, rfl, rfl⟩, .int 0, rfl, sz (by simp), hk _ m⟩
    | true =>
      obtain ⟨z, rfl⟩ : ∃ z, d = .str z := by
        cases d <;> first | exact ⟨_, rfl⟩ | cases e
      refine ⟨Nat.zero_le 1, rfl, .inl ⟨.str z, rfl, .inl ⟨z, rfl, hs z rfl, fun rows j => ?_, fun ⟨p, i, j⟩ => ?_⟩⟩⟩
      · have m : metS (.str z) = .list [.str "read", flD rows] := by
          show (match judge (fieldsZ z) with | .inr rows => _ | .inl _ => _) = _
          rw [j]
        exact ⟨.inl rfl, rfl, ⟨rfl, rows.map rowD, rfl, sz (by simp), hk _ m⟩⟩
      · have m : metS (.str z) = .list [.str "line", .int 1] := by
          show (match judge (fieldsZ z) with | .inr rows => _ | .inl _ => _) = _
          rw [j]
        refine ⟨.inl rfl, rfl, fun a dd => ?_⟩
        exact ⟨⟨rfl, rfl, rfl⟩, ⟨rfl, rfl, rfl⟩, ⟨rfl, rfl, rfl⟩, .int 1, rfl, sz (by simp), hk _ m⟩
  · refine ⟨sz (by simp), ?_⟩
    refine ⟨Nat.zero_le 1, rfl, .inr ⟨rows, rfl, .inl rfl, rfl, fun a dd => ?_⟩⟩
    exact ⟨⟨rfl, rfl, rfl⟩, ⟨rfl, rfl, rfl⟩, ⟨rfl, rfl, rfl⟩, .int 0, rfl, sz (by simp), hk⟩
end KR
set_option Elab.async false
set_option linter.all false
set_option maxRecDepth 100000
namespace KR
open PySem PySem.Spec PyProof.Rows L2 Evl Kc Kz Kx Tr Mg K23 K22 K27 K24 KA KB KI TL
def nC (rs : List Mg.Row) : Nat := (rs.filter fun r => isC r.2).length
def nL (rs : List Mg.Row) : Nat := (rs.filter fun r => !isC r.2).length
structure Good3 (rs : List Mg.Row) : Prop where
  nd : (rs.map (·.1)).Nodup
  c : nC rs ≤ 4
  l : nL rs ≤ 12
theorem good_pre {a b : List Mg.Row} (g : Good3 (a ++ b)) : Good3 a := by
  obtain ⟨h1, h2, h3⟩ := g
  unfold nC at h2
  unfold nL at h3
  rw [List.map_append] at h1
  rw [List.filter_append, List.length_append] at h2 h3
  exact ⟨h1.sublist (List.sublist_append_left _ _), by unfold nC; omega, by unfold nL; omega⟩
theorem alike_is (rs : List Mg.Row) (k : Str) : alike rs k = if isC k then nC rs else nL rs := by
  unfold alike nC nL
  cases isC k with
  | true => rw [if_pos rfl]; congr 1; exact List.filter_congr fun q _ => by cases isC q.2 <;> rfl
  | false => rw [if_neg (by decide)]; congr 1; exact List.filter_congr fun q _ => by cases isC q.2 <;> rfl
theorem field_row {r : Mg.Row} (w : word r.1) (t : three r.2) : fieldB (rowD r) = true := by
  show (nameB (.str r.1) && kindB r.2) = true
  rw [show nameB (.str r.1) = true from w, show kindB r.2 = true from decide_eq_true t]
  rfl
theorem good_step {acc : List Mg.Row} {r : Mg.Row} (g : Good3 acc) (w : word r.1) (t : three r.2) : (Good3 (acc ++ [r]) → probl acc (rowD r) = none) ∧ (¬ Good3 (acc ++ [r]) → ∃ p, probl acc (rowD r) = some p) := by
  have f := field_row w t
  have ro : rowOf (rowD r) = r := rfl
  unfold probl
  rw [if_pos f, ro]
  have cn : nC (acc ++ [r]) = nC acc + (if isC r.2 then 1 else 0) := by
    unfold nC
    rw [List.filter_append, List.length_append, List.filter_cons, List.filter_nil]
    cases isC r.2 <;> rfl
  have ln : nL (acc ++ [r]) = nL acc + (if isC r.2 then 0 else 1) := by
    unfold nL
    rw [List.filter_append, List.length_append, List.filter_cons, List.filter_nil]
    cases isC r.2 <;> rfl
  have nd : ((acc ++ [r]).map (·.1)).Nodup ↔ r.1 ∉ acc.map (·.1) := by
    rw [List.map_append, List.map_cons, List.map_nil, List.nodup_append]
    constructor
    · rintro ⟨_, _, h⟩ m
      exact h r.1 m r.1 (List.mem_singleton_self _) rfl
    · intro h
      refine ⟨g.nd, by simp, fun a ha b hb e => ?_⟩
      rw [List.mem_singleton.mp hb] at e
      exact h (e ▸ ha)
  have al := alike_is acc r.2
  have gc := g.c
  have gl := g.l
  constructor
  · intro h
    have c2 := h.c
    have l2 := h.l
    rw [if_neg (nd.mp h.nd), if_neg]
    rw [al]
    unfold most
    intro e
    cases q : isC r.2 with
    | true => rw [q] at e cn; simp only [if_true] at e cn; omega
    | false => rw [q] at e ln; simp only [Bool.false_eq_true, if_false] at e ln; omega
  · intro h
    by_cases m : r.1 ∈ acc.map (·.1)
    · rw [if_pos m]
      exact ⟨_, rfl⟩
    · rw [if_neg m]
      by_cases q : alike acc r.2 = most r.2
      · rw [if_pos q]
        exact ⟨_, rfl⟩
      · refine absurd ⟨nd.mpr m, ?_, ?_⟩ h
        · rw [cn]
          rw [al] at q
          unfold most at q
          cases z : isC r.2 with
          | true => rw [z] at q; simp only [if_true] at q ⊢; omega
          | false => simp only [Bool.false_eq_true, if_false]; omega
        · rw [ln]
          rw [al] at q
          unfold most at q
          cases z : isC r.2 with
          | true => simp only [if_true]; omega
          | false => rw [z] at q; simp only [Bool.false_eq_true, if_false] at q ⊢; omega
theorem scan_good : ∀ (rest : List Mg.Row) (acc : List Mg.Row) (i : Nat), Good3 acc → (∀ r ∈ rest, word r.1 ∧ three r.2) → (Good3 (acc ++ rest) → scanF (rest.map rowD) i acc = .inr (acc ++ rest)) ∧ (¬ Good3 (acc ++ rest) → ∃ p, scanF (rest.map rowD) i acc = .inl p)
  | [], acc, i, g, _ => by
    rw [List.append_nil]
    exact ⟨fun _ => rfl, fun h => absurd g h⟩
  | r :: rest, acc, i, g, ok => by
    obtain ⟨w, t⟩ := ok r List.mem_cons_self
    obtain ⟨s1, s2⟩ := good_step g w t
    have e : acc ++ r :: rest = (acc ++ [r]) ++ rest := by rw [List.append_assoc]; rfl
    have ro : rowOf (rowD r) = r := rfl
    rw [e]
    by_cases h : Good3 (acc ++ [r])
    · have go : scanF ((r :: rest).map rowD) i acc = scanF (rest.map rowD) (i + 1) (acc ++ [r]) := by
        show (match probl acc (rowD r) with | some p => _ | none => _) = _
        rw [s1 h, ro]
      rw [go]
      exact scan_good rest _ (i + 1) h fun q hq => ok q (List.mem_cons_of_mem _ hq)
    · obtain ⟨p, hp⟩ := s2 h
      refine ⟨fun g2 => absurd (good_pre g2) h, fun _ => ⟨(p, i), ?_⟩⟩
      show (match probl acc (rowD r) with | some p => _ | none => _) = _
      rw [hp]
theorem judge_rows {rows : List Mg.Row} (ne : rows ≠ []) (ok : ∀ r ∈ rows, word r.1 ∧ three r.2) : (Good3 rows → judge (flD rows) = .inr rows) ∧ (¬ Good3 rows → ∃ p i, judge (flD rows) = .inl (p, i)) := by
  obtain ⟨r, rest, rfl⟩ := List.exists_cons_of_ne_nil ne
  have nil : Good3 [] := ⟨List.nodup_nil, Nat.zero_le _, Nat.zero_le _⟩
  obtain ⟨h1, h2⟩ := scan_good (r :: rest) [] 0 nil ok
  constructor
  · intro g
    show (match scanF ((r :: rest).map rowD) 0 [] with | .inl p => _ | .inr rows => _) = _
    rw [h1 g]
    rfl
  · intro g
    obtain ⟨p, hp⟩ := h2 g
    refine ⟨p.1, p.2, ?_⟩
    show (match scanF ((r :: rest).map rowD) 0 [] with | .inl p => _ | .inr rows => _) = _
    rw [hp]
end KR
set_option Elab.async false
set_option linter.all false
set_option maxRecDepth 100000
namespace KR
open PySem PySem.Spec PyProof.Rows L2 Evl Kc Kz Kx Tr Mg K23 K22 K27 K24 KA KB KI TL
theorem bad_word {z w : Str} (hw : w ∈ Txt.split z " ") (h : fieldB (partT w) = false) : ∃ p i, judge (fieldsZ z) = .inl (p, i) := by
  cases j : judge (fieldsZ z) with
  | inl p => exact ⟨p.1, p.2, rfl⟩
  | inr rows =>
    obtain ⟨a, b⟩ := rows_read j
    have m : partT w ∈ rows.map rowD := a ▸ List.mem_map.mpr ⟨w, hw, rfl⟩
    obtain ⟨r, hr, e⟩ := List.mem_map.mp m
    rw [← e, field_row (b r hr).1 (b r hr).2] at h
    cases h
abbrev stI (z : Str) (fs : List D) (c2 c3 c4 c5 : Option AV) : S := [some (.dat (.str z)), some (.own false (.list fs)), c2, c3, c4, c5, none, none]
abbrev L1 : FS := (sSet 3 (fMeth gSplit (fVar 2) (fCons (fC (.dat (.str ":"))) fNil)))
abbrev L2_ : FS := (sIf (fOr (fTest (f2 gNe (fB (g1 gLen) (fCons (fFrz 3) fNil)) (fC (.dat (.int (2)))))) (fOr (fNot (fTest (fCall 1 F_nameA (fCons (f2 gIx (fFrz 3) (fC (.dat (.int (0))))) fNil)))) (fTest (f2 (gIn true) (f2 gIx (fFrz 3) (fC (.dat (.int (1))))) (fDisp .newt (fCons (fC (.dat (.str "mine"))) (fCons (fC (.dat (.str "theirs"))) (fCons (fC (.dat (.str "counter"))) fNil)))))))) (sRet (fC (.dat (.none)))) sNil)
abbrev L3 : FS := (sExpr (fMut 1 mAppend (fCons (fDisp .newt (fCons (f2 gIx (fFrz 3) (fC (.dat (.int (0))))) (fCons (f2 gIx (fFrz 3) (fC (.dat (.int (1))))) fNil))) fNil)))
theorem turn_in {z w : Str} {fs : List D} {c3 : Option AV} {N : EndsT} {x : KX} (wl : w.length ≤ 600) (fl : fs.length ≤ 100) (k3 : Np c3) (bad : fieldB (partT w) = false → ∀ ρ, N.rt (.dat .none) ρ)
    (good : ∀ r : Mg.Row, word r.1 → three r.2 → partT w = rowD r → ∀ c3, Np c3 → N.nx (stI z (fs ++ [rowD r]) (some (.dat (.str w))) c3 none none)) :
    sCons L1 (sCons L2_ L3) (stI z fs (some (.dat (.str w))) c3 none none) N x := by
  have big : 2000 ≤ sizeLine := by decide
  have pm := cut_many (z := w) (y := ":") rfl
  have ps : ∀ p ∈ Txt.split w ":", p.length ≤ 600 := fun p hp => Nat.le_trans (cut_short hp) wl
  refine ⟨⟨_, rfl⟩, rfl, (show w.length + 2 ≤ sizeLine by omega), ?_⟩
  refine Np.put (a := .own false (.list (sts (Txt.split w ":")))) rfl k3 rfl (fun _ => nofun) ?_
  have bad2 : (Txt.split w ":").length ≠ 2 → ∀ ρ, N.rt (.dat .none) ρ := fun h => bad (field_len (by rw [List.length_map]; exact h))
  unfold partT at bad good
  generalize Txt.split w ":" = qs at bad bad2 good pm ps
  refine ⟨⟨sh_int _, sh_int _⟩, ifNI (fun q => ?_) fun q => ?_⟩
  · exact bad2 (fun e => q (by rw [List.length_map, e]; rfl)) _
  · have q2 : qs.length = 2 := by
      rw [List.length_map] at q
      omega
    obtain ⟨a, b, rfl⟩ : ∃ a b, qs = [a, b] := by
      match qs, q2 with
      | [a, b], _ => exact ⟨a, b, rfl⟩
    have al := ps a List.mem_cons_self
    have fe : fieldB (.tuple (sts [a, b])) = (nameB (.str a) && kindB b) := rfl
    refine ⟨.str a, rfl, Nat.zero_le 1, rfl, .str a, rfl, (show a.length ≤ 1000 by omega), .inl rfl, ?_⟩
    cases na : nameB (.str a) with
    | false =>
      rw [na, Bool.false_and] at fe
      exact bad fe _
    | true =>
      refine ⟨.str b, rfl, sz (by simp), rfl, ?_⟩
      show if (true ^^ inD (.str b) [.str "mine", .str "theirs", .str "counter"]) = true then _ else _
      rw [in_kinds]
      rw [na, Bool.true_and] at fe
      cases kb : kindB b with
      | false =>
        rw [kb] at fe
        exact bad fe _
      | true =>
        refine ⟨.str a, rfl, .str b, rfl, sz (by simp), rfl, (show (fs.length : Nat) < sizeLine from small1000 (by omega)), ?_⟩
        exact good (a, b) na (of_decide_eq_true kb) rfl _ nDat
theorem words_some (z : Str) : Txt.split z " " ≠ [] := fun h => by
  have e : Str.join " " (Txt.split z " ") = z := StrLaws.join_split z " "
  rw [h] at e
  have e2 : z = "" := e.symm
  rw [e2] at h
  exact absurd h (by decide +kernel)
theorem cnt_sts {ws : List Str} {w : Str} : ((sts ws).countP fun c => eqD c (.str w)) = ws.count w := by
  unfold List.count
  show (ws.map PyData.str).countP _ = _
  rw [List.countP_map]
  refine List.countP_congr fun y _ => ?_
  show eqD (.str y) (.str w) = true ↔ _
  rw [eqS]
  simp
theorem kinds_c (rs : List Mg.Row) : (rs.map fun r => r.2).count ("counter" : Str) = nC rs := by
  unfold List.count nC
  rw [List.countP_map, List.countP_eq_length_filter]
  congr 1
theorem kinds_l (rs : List Mg.Row) : rs.length = nC rs + nL rs := by
  unfold nC nL
  induction rs with
  | nil => rfl
  | cons r rs ih =>
    rw [List.filter_cons, List.filter_cons, List.length_cons, ih]
    cases isC r.2
    · simp only [Bool.false_eq_true, if_false, Bool.not_false, if_true, List.length_cons]; omega
    · simp only [if_true, Bool.not_true, Bool.false_eq_true, if_false, List.length_cons]; omega
/-- a name that is there twice -/
theorem twice_iff {ws : List Str} : ws.Nodup ↔ (ws.filter fun w => decide (1 < ws.count w)) = [] := by
  rw [List.nodup_iff_count, List.filter_eq_nil_iff]
  constructor
  · intro h w _ d
    have := h w
    have := of_decide_eq_true d
    omega
  · intro h w
    by_cases m : w ∈ ws
    · have := h w m
      rw [decide_eq_true_eq] at this
      omega
    · rw [List.count_eq_zero_of_not_mem m]
      exact Nat.zero_le 1
abbrev LoopF : FS := sCons L1 (sCons L2_ L3)
abbrev NamesF : FE := (fLc [6] (iSeq lK (fFrz 4)) (gN 6) (fTest (f2 gGt (fCnt (fVar 4) (fVar 6)) (fC (.dat (.int (1)))))) (fFrz 6))
abbrev A1 : FS := (sAsg (fDisp .newt (fCons (fLc [6, 7] (iSeq lK (fFrz 1)) (gT 2 (gsCons (gN 6) (gsCons (gN 7) gsNil))) fYes (fFrz 6)) (fCons (fLc [6, 7] (iSeq lK (fFrz 1)) (gT 2 (gsCons (gN 6) (gsCons (gN 7) gsNil))) fYes (fFrz 7)) fNil))) (gT 2 (gsCons (gN 4) (gsCons (gN 5) gsNil))))
abbrev A2_ : FS := (sIf (fTest (f2 gGt (fB (g1 gLen) (fCons NamesF fNil)) (fC (.dat (.int (0)))))) (sRet (fC (.dat (.none)))) sNil)
abbrev A3_ : FS := (sRet (fIf (fOr (fTest (f2 gGt (fCnt (fVar 5) (fC (.dat (.str "counter")))) (fC (.dat (.int (4)))))) (fTest (f2 gGt (f2 (gI0 fun i j => .int (i - j)) (fB (g1 gLen) (fCons (fVar 5) fNil)) (fCnt (fVar 5) (fC (.dat (.str "counter"))))) (fC (.dat (.int (12))))))) (fC (.dat (.none))) (fVar 1)))
section
variable {z : Str} {rs : List Mg.Row} {c2 c3 : Option AV} {R : FS} {N : EndsT} {x : KX}
abbrev stJ (z : Str) (fs : D) (c2 c3 c4 c5 : Option AV) : S := [some (.dat (.str z)), some (.dat fs), c2, c3, c4, c5, none, none]
theorem a1_run (l : rs.length ≤ 100) (h : R (stJ z (flD rs) c2 c3 (some (.dat (.list (sts (rs.map (·.1)))))) (some (.dat (.list (sts (rs.map (·.2))))))) N x) : sCons A1 R (stI z (rs.map rowD) c2 c3 none none) N x := by
  refine ⟨rfl, ?_⟩
  refine lcF_by (fun i acc ρ => ρ = stJ z (flD rs) c2 c3 none none ∧ acc = sts ((rs.take i).map (·.1))) (fun i d acc ρ hd hI C' hC => ?_) (fun acc ρ hI => ?_) ⟨rfl, rfl⟩
  · obtain ⟨rfl, rfl⟩ := hI
    obtain ⟨r, hr, rfl⟩ := row_get hd
    refine ⟨rfl, ?_⟩
    refine ⟨?_, hC _ _ ⟨rfl, ?_⟩⟩
    · rw [List.length_map, List.length_map]
      exact small1000 (Nat.le_trans (List.length_take_le' _ _) (by omega))
    · rw [take_succ hr, List.map_append, sts_app]
      rfl
  · obtain ⟨rfl, rfl⟩ := hI
    rw [List.length_map, List.take_length]
    refine ⟨rfl, ?_⟩
    refine lcF_by (fun i acc ρ => ρ = stJ z (flD rs) c2 c3 none none ∧ acc = sts ((rs.take i).map (·.2))) (fun i d acc ρ hd hI C' hC => ?_) (fun acc ρ hI => ?_) ⟨rfl, rfl⟩
    · obtain ⟨rfl, rfl⟩ := hI
      obtain ⟨r, hr, rfl⟩ := row_get hd
      refine ⟨rfl, ?_⟩
      refine ⟨?_, hC _ _ ⟨rfl, ?_⟩⟩
      · rw [List.length_map, List.length_map]
        exact small1000 (Nat.le_trans (List.length_take_le' _ _) (by omega))
      · rw [take_succ hr, List.map_append, sts_app]
        rfl
    · obtain ⟨rfl, rfl⟩ := hI
      rw [List.length_map, List.take_length]
      exact ⟨sz (by simp), rfl, pd rfl .no (conK (pd rfl .no (nilK h)))⟩
theorem a2_run {ws : List Str} {f5 : Option AV} {fs : D} (l : ws.length ≤ 100) (dup : ¬ ws.Nodup → ∀ ρ, N.rt (.dat .none) ρ) (h : ws.Nodup → R (stJ z fs c2 c3 (some (.dat (.list (sts ws)))) f5) N x) :
    sCons A2_ R (stJ z fs c2 c3 (some (.dat (.list (sts ws)))) f5) N x := by
  refine ⟨rfl, ?_⟩
  refine lcF_by (fun i acc ρ => ρ = stJ z fs c2 c3 (some (.dat (.list (sts ws)))) f5 ∧ acc = sts ((ws.take i).filter fun w => decide (1 < ws.count w))) (fun i d acc ρ hd hI C' hC => ?_) (fun acc ρ hI => ?_) ⟨rfl, rfl⟩
  · obtain ⟨rfl, rfl⟩ := hI
    rw [List.getElem?_map] at hd
    obtain ⟨w, hw, rfl⟩ := Option.map_eq_some_iff.mp hd
    have sm : (sts ((ws.take i).filter fun w => decide (1 < ws.count w))).length < sizeLine := by
      rw [List.length_map]
      exact small1000 (Nat.le_trans (List.length_filter_le _ _) (Nat.le_trans (List.length_take_le' _ _) (by omega)))
    refine pkd rfl .no ?_
    refine ⟨⟨_, rfl⟩, (show (true && (sts ws).all flatD) = true by rw [flat_sts]; rfl), ?_⟩
    rw [cnt_sts]
    refine ifs (fun e => ⟨sm, hC _ _ ⟨rfl, ?_⟩⟩) fun e => hC _ _ ⟨rfl, ?_⟩
    · have : decide (1 < ws.count w) = true := decide_eq_true (by have := of_decide_eq_true e; omega)
      rw [take_succ hw, List.filter_append, List.filter_cons_of_pos (by exact this), sts_app]
      rfl
    · have : ¬ (decide (1 < ws.count w) = true) := fun y => by
        have := of_decide_eq_false e
        have := of_decide_eq_true y
        omega
      have e0 : ([w].filter fun w => decide (1 < ws.count w)) = [] := List.filter_cons_of_neg (p := fun w => decide (1 < ws.count w)) this
      rw [take_succ hw, List.filter_append, e0, List.append_nil]
  · obtain ⟨rfl, rfl⟩ := hI
    rw [List.length_map, List.take_length]
    refine ifs (fun e => ?_) fun e => ?_
    · have e := of_decide_eq_true e
      refine dup (fun nd => ?_) _
      rw [twice_iff.mp nd] at e
      exact absurd e (by decide)
    · have e := of_decide_eq_false e
      refine h (twice_iff.mpr ?_)
      rw [List.length_map] at e
      exact List.eq_nil_of_length_eq_zero (by omega)
theorem a3_run {c4 : Option AV} {k : AV → Prop} {x : KX} (l : rs.length ≤ 100) (bad : ¬ (nC rs ≤ 4 ∧ nL rs ≤ 12) → k (.dat .none)) (good : nC rs ≤ 4 → nL rs ≤ 12 → ∀ a, (a = .dat (flD rs)) → k a) :
    A3_ (stJ z (flD rs) c2 c3 c4 (some (.dat (.list (sts (rs.map (·.2))))))) (Ok k) x := by
  have kc := kinds_c rs
  have kl := kinds_l rs
  have flat : (true && (sts (rs.map fun r => r.2)).all flatD) = true := by rw [flat_sts]; rfl
  refine ⟨⟨_, rfl⟩, flat, ?_⟩
  rw [cnt_sts, kc]
  refine ifs (fun e => ?_) fun e => ?_
  · have e := of_decide_eq_true e
    exact bad fun q => by have := q.1; omega
  · have e := of_decide_eq_false e
    refine ⟨⟨_, rfl⟩, flat, ?_⟩
    rw [cnt_sts, kc, List.length_map, List.length_map, kl]
    refine ifs (fun e2 => ?_) fun e2 => ?_
    · have e2 := of_decide_eq_true e2
      exact bad fun q => by have := q.2; omega
    · have e2 := of_decide_eq_false e2
      exact good (by omega) (by omega) _ rfl
end
theorem imp_rowsIn : ∀ as k x, as.length = 1 → F_rowsIn as k x → KR.fb_law_rows_in (start0 8 as) (Ok k) fun c _ => x c := by
  have big : 2000 ≤ sizeLine := by decide
  rintro _ k x _ ⟨z, rfl, hz, hk, hno⟩
  have zl := hz.l
  have wm := words_many hz
  show sCons (sSet 1 (fDisp .newl fNil)) _ _ _ _
  refine ⟨sz (by simp), pk (a := .own false (.list [])) (c := none) rfl .no rfl (fun _ => nofun) ?_⟩
  refine ⟨⟨_, rfl⟩, rfl, (show z.length + 2 ≤ sizeLine by omega), ?_⟩
  show forF (gN 2) LoopF (sts (Txt.split z " ")) (stI z [] none none none none) _ _
  have dup : ∀ {rs : List Mg.Row}, rs ≠ [] → (∀ r ∈ rs, word r.1 ∧ three r.2) → (Txt.split z " ").map partT = rs.map rowD → ¬ Good3 rs → k (.dat .none) := fun ne ok e g => hno (by
    unfold fieldsZ
    rw [e]
    exact (judge_rows ne ok).2 g)
  refine forF_by (fun i ρ => ∃ (rs : List Mg.Row) (c2 c3 : Option AV), ρ = stI z (rs.map rowD) c2 c3 none none ∧ Cl c2 ∧ Np c3 ∧ (∀ r ∈ rs, word r.1 ∧ three r.2) ∧ ((Txt.split z " ").take i).map partT = rs.map rowD) (fun i d ρ hd hI C' hC => ?_) (fun ρ hI => ?_) ⟨[], none, none, rfl, .no, nofun, nofun, by rw [List.take_zero]; rfl⟩
  · obtain ⟨rs, c2, c3, rfl, k2, k3, ok, e⟩ := hI
    rw [List.getElem?_map] at hd
    obtain ⟨w, hw, rfl⟩ := Option.map_eq_some_iff.mp hd
    have mem := List.mem_of_getElem? hw
    have rl : rs.length ≤ 100 := by
      have := congrArg List.length e
      rw [List.length_map, List.length_map, List.length_take] at this
      omega
    refine pd rfl k2 ?_
    refine turn_in (hz.m w mem) (by rw [List.length_map]; exact rl) k3 (fun f _ => hno (bad_word mem f)) fun r w1 t1 er c3 k3 => ?_
    refine hC _ ⟨rs ++ [r], _, _, by rw [List.map_append]; rfl, .dat, k3, fun q hq => ?_, ?_⟩
    · rcases List.mem_append.mp hq with y | y
      · exact ok q y
      · rw [List.mem_singleton.mp y]
        exact ⟨w1, t1⟩
    · rw [take_succ hw, List.map_append, List.map_append, e]
      show _ ++ [partT w] = _
      rw [er]
      rfl
  · obtain ⟨rs, c2, c3, rfl, k2, k3, ok, e⟩ := hI
    rw [List.length_map, List.take_length] at e
    have len := congrArg List.length e
    rw [List.length_map, List.length_map] at len
    have ne : rs ≠ [] := fun q => words_some z (by rw [q] at len; exact List.length_eq_zero_iff.mp len)
    have rl : rs.length ≤ 100 := by omega
    refine a1_run rl (a2_run (by rw [List.length_map]; exact rl) (fun q _ => dup ne ok e fun g => q g.nd) fun nd => a3_run rl (fun q => dup ne ok e fun g => q ⟨g.c, g.l⟩) fun gc gl a ea => ?_)
    have j : judge (fieldsZ z) = .inr rs := by
      unfold fieldsZ
      rw [e]
      exact (judge_rows ne ok).1 ⟨nd, gc, gl⟩
    rw [ea]
    exact hk rs j
end KR
set_option Elab.async false
set_option linter.all false
set_option maxRecDepth 100000
namespace KF
open PySem PySem.Spec PyProof.Rows L2 Evl Kc Kz Kx Tr Mg K23 K22 K27 K24 KA KB
end KF
set_option Elab.async false
set_option linter.all false
set_option maxRecDepth 100000
namespace KF
open PySem PySem.Spec PyProof.Rows L2 Evl Kc Kz Kx Tr Mg K23 K22 K27 K24 KA KB
end KF
set_option Elab.async false
set_option linter.all false
set_option maxRecDepth 100000
namespace KQ
open PySem PySem.Spec PyProof.Rows L2 Evl Kc Kz Kx Tr Mg K23 K22 K27 K24 KA KB KF TL
open PySem.NumText (digitsVal AllDigits)
/-- the signs behind a minus -/
def digitsOf : List Nat → List Nat
  | 45 :: r => r
  | t => t
def isDig (c : Nat) : Bool := decide (48 ≤ c ∧ c < 58)
/-- is it a number's text -/
def numB (z : Str) : Bool := (!(digitsOf (tl z)).isEmpty) && (digitsOf (tl z)).all isDig && (decide (tl z = [48]) || !decide ((digitsOf (tl z)).head? = some 48))
def numV (z : Str) : Int := if (tl z).head? = some 45 then -((digitsVal (digitsOf (tl z)) : Nat) : Int) else ((digitsVal (digitsOf (tl z)) : Nat) : Int)
def numS (i : Int) : Str := Str.ofString (toString i)
def low (z : Str) : Prop := ∀ c ∈ tl z, c < 128
structure Tx (z : Str) : Prop where
  l : z.length ≤ 300
  w : low z
def readV (z : Str) : D := if numB z = true then .int (numV z) else .str z
def rowV (z : Str) : D := .tuple ((Txt.split z ",").map readV)
def valT : D → Str
  | .int i => numS i
  | .str z => z
  | _ => ""
def verT (ds : List D) : Str := Txt.join "," (ds.map valT)
abbrev exT (DT : Addr) (n : Int) : Exn := ⟨DT, [("line", .int n)]⟩
abbrev exV (DV : Addr) (d : D) : Exn := ⟨DV, [("version", d)]⟩
def Short (d : D) : Prop := shortVs d ∧ ∀ ds, d = .tuple ds → ds.length ≤ 1000
def F_verTX (C DV : Addr) : FD := fun as k x => ∃ (rows : List Mg.Row) (d : D), as = [schO C rows, .dat d] ∧ rows.length ≤ 8 ∧ (∀ r ∈ rows, three r.2) ∧ ((∃ ds, d = .tuple ds ∧ VerOk 300 rows ds ∧ k (.dat (.str (verT ds)))) ∨ (versionB rows d = false ∧ Short d ∧ keptOk 5 d ∧ x (exV DV d)))
def isStr : D → Bool
  | .str _ => true
  | _ => false
def F_readX (C DT : Addr) : FD := fun as k x => ∃ (rows : List Mg.Row) (d : D), as = [schO C rows, .dat d] ∧ rows.length ≤ 8 ∧ (∀ r ∈ rows, three r.2) ∧ ((∃ z, d = .str z ∧ (z.length ≤ 300 ∧ low z) ∧ ((versionB rows (rowV z) = true ∧ k (.dat (rowV z))) ∨ (versionB rows (rowV z) = false ∧ x (exT DT 1)))) ∨ (isStr d = false ∧ x (exT DT 0)))
def F_rowIn : FD := fun as k _ => ∃ (rows : List Mg.Row) (z : Str), as = [.dat (flD rows), .dat (.str z)] ∧ rows.length ≤ 8 ∧ (∀ r ∈ rows, three r.2) ∧ Tx z ∧ k (.dat (if versionB rows (rowV z) = true then rowV z else .none))
def F_lineOf : FD := fun as k _ => ∃ (rows : List Mg.Row) (ds : List D), as = [.dat (flD rows), .dat (.tuple ds)] ∧ rows.length ≤ 8 ∧ (∀ r ∈ rows, three r.2) ∧ VerOk 300 rows ds ∧ k (.dat (.str (verT ds)))
def metV (rows : List Mg.Row) : D → D
  | .str z => if versionB rows (rowV z) = true then .list [.str "read", rowV z] else .list [.str "line", .int 1]
  | _ => .list [.str "line", .int 0]
def F_met17 (C : Addr) : FD := fun as k _ => ∃ (rows : List Mg.Row) (d : D), as = [schO C rows, .dat d] ∧ rows.length ≤ 8 ∧ (∀ r ∈ rows, three r.2) ∧ (∀ z, d = .str z → z.length ≤ 300 ∧ low z) ∧ ∀ ds, metV rows d = .list ds → k (.own false (.list ds))
def F_bent17 : FD := fun as k _ => ∃ z : Str, as = [.pot true, .dat (.str z)] ∧ Tx z ∧ ∀ y : Str, y.length ≤ z.length + 9 → low y → k (.dat (.str y))
def F_short : FD := fun as k _ => ∃ z : Str, as = [.dat (.str z)] ∧ Tx z ∧ ∀ b : Bool, k (.dat (.bool b))
end KQ
set_option Elab.async false
set_option linter.all false
set_option maxRecDepth 100000
set_option maxHeartbeats 4000000
namespace KQ
open PySem PySem.Spec PyProof.Rows L2 Evl Kc Kz Kx Tr Mg K23 K22 K27 K24 KA KB KF
def fb_law_met (C : Addr) (D_InvalidText : Addr) : FS := (sCons (sSet 2 (fDisp .newl (fCons (fC (.dat (.str "other"))) fNil))) (sCons (sTryAs 3 D_InvalidText (sSet 2 (fDisp .newl (fCons (fC (.dat (.str "read"))) (fCons (fCall 2 (F_readX C D_InvalidText) (fCons (fVar 0) (fCons (fVar 1) fNil))) fNil)))) (fun a dd => (sCons (sSet 4 (fIsX 3 a D_InvalidText dd false)) (sSet 2 (fIf (fAnd (fTest (fIsX 3 a D_InvalidText dd true)) (fNot (fTest (fVar 4)))) (fDisp .newl (fCons (fC (.dat (.str "line"))) (fCons (fXf 3 a D_InvalidText dd "line") fNil))) (fDisp .newl (fCons (fC (.dat (.str "other"))) fNil))))))) (sRet (fVar 2))))
def fb_law_bent : FS := (sCons (sPar 2 3 (fCons (fCall 2 F_draw (fCons (fVar 0) (fCons (f2 gAdd (fB (g1 gLen) (fCons (fVar 1) fNil)) (fC (.dat (.int (1))))) fNil))) (fCons (fCall 2 F_draw (fCons (fVar 0) (fCons (fC (.dat (.int (4)))) fNil))) fNil))) (sCons (sSet 4 (f2 gIx (fC (.dat (.str "az09,- +\nAZ.:|"))) (fCall 2 F_draw (fCons (fVar 0) (fCons (fC (.dat (.int (14)))) fNil))))) (sCons (sIf (fTest (f2 gEq (fVar 3) (fC (.dat (.int (0)))))) (sRet (f2 gAdd (f2 gAdd (fSl (fVar 1) oNone (oSome (fVar 2))) (fVar 4)) (fSl (fVar 1) (oSome (fVar 2)) oNone))) sNil) (sCons (sIf (fTest (f2 gEq (fVar 3) (fC (.dat (.int (1)))))) (sRet (f2 gAdd (fSl (fVar 1) oNone (oSome (fVar 2))) (fSl (fVar 1) (oSome (f2 gAdd (fVar 2) (fC (.dat (.int (1)))))) oNone))) sNil) (sCons (sIf (fTest (f2 gEq (fVar 3) (fC (.dat (.int (2)))))) (sRet (f2 gAdd (f2 gAdd (fSl (fVar 1) oNone (oSome (fVar 2))) (fVar 4)) (fSl (fVar 1) (oSome (f2 gAdd (fVar 2) (fC (.dat (.int (1)))))) oNone))) sNil) (sCons (sSet 5 (fMeth gSplit (fVar 1) (fCons (fC (.dat (.str ","))) fNil))) (sCons (sSet 6 (fCall 2 F_draw (fCons (fVar 0) (fCons (fB (g1 gLen) (fCons (fVar 5) fNil)) fNil)))) (sCons (sSet 7 (f2 gIx (fVar 5) (fVar 6))) (sCons (sSet 8 (fDisp .newl (fCons (fC (.dat (.str ""))) (fCons (f2 gAdd (fC (.dat (.str "0"))) (fVar 7)) (fCons (f2 gAdd (fC (.dat (.str "-"))) (fVar 7)) (fCons (fC (.dat (.str "-0"))) (fCons (fC (.dat (.str "00"))) (fCons (f2 gAdd (fVar 7) (fC (.dat (.str "abcdefgh")))) (fCons (fC (.dat (.str "+1"))) (fCons (fUp (fVar 7)) (fCons (fC (.dat (.str "1_0"))) (fCons (f2 gAdd (fC (.dat (.str " "))) (fVar 7)) fNil)))))))))))) (sRet (fMeth gJoin (fC (.dat (.str ","))) (fCons (f2 gAdd (f2 gAdd (fSl (fVar 5) oNone (oSome (fVar 6))) (fDisp .newl (fCons (f2 gIx (fVar 8) (fCall 2 F_draw (fCons (fVar 0) (fCons (fC (.dat (.int (10)))) fNil)))) fNil))) (fSl (fVar 5) (oSome (f2 gAdd (fVar 6) (fC (.dat (.int (1)))))) oNone)) fNil))))))))))))
def fb_law (C : Addr) (D_InvalidText : Addr) (D_InvalidVersion : Addr) : FS := (sCons (sFor (iR1 (fCons (fB (g2 gMax2) (fCons (fC (.dat (.int (1)))) (fCons (fB (g2 gMin2) (fCons (fC (.dat (.int (6)))) (fCons (fScrLen (fVar 0)) fNil))) fNil))) fNil)) (gN 1) (sCons (sSet 2 (fCall 2 F_pot (fCons (fVar 0) (fCons (fVar 1) fNil)))) (sCons (sSet 3 (fCall 1 F_somef (fCons (fVar 2) fNil))) (sCons (sPar 4 5 (fCons (fMake C "rows" 1 F_init (fCons (fFrz 3) fNil)) (fCons (f2 gIx (fCall 4 F_rows (fCons (fVar 2) (fCons (fFrz 3) (fCons (fC (.dat (.int (1)))) (fCons (fCall 2 F_draw (fCons (fVar 2) (fCons (fC (.dat (.int (2)))) fNil))) fNil))))) (fC (.dat (.int (0))))) fNil))) (sCons (sSet 6 (fCall 2 F_lineOf (fCons (fFrz 3) (fCons (fVar 5) fNil)))) (sCons (sIf (fTest (f2 (gEqT true) (fB (g1 gReprX) (fCons (fDisp .newl (fCons (fCall 2 (F_verTX C D_InvalidVersion) (fCons (fVar 4) (fCons (fVar 5) fNil))) (fCons (fCall 2 (F_readX C D_InvalidText) (fCons (fVar 4) (fCons (fVar 6) fNil))) fNil))) fNil)) (fB (g1 gReprX) (fCons (fDisp .newl (fCons (fFrz 6) (fCons (fFrz 5) fNil))) fNil)))) (sRet (fC (.dat (.bool false)))) sNil) (sCons (sIf (fTest (f2 (gEqT true) (fB (g1 gReprX) (fCons (fDisp .newl (fCons (fCall 2 (F_verTX C D_InvalidVersion) (fSwp (fCons (fVar 5) (fCons (fVar 4) fNil)))) (fCons (fCall 2 (F_readX C D_InvalidText) (fSwp (fCons (fVar 6) (fCons (fVar 4) fNil)))) fNil))) fNil)) (fB (g1 gReprX) (fCons (fDisp .newl (fCons (fFrz 6) (fCons (fFrz 5) fNil))) fNil)))) (sRet (fC (.dat (.bool false)))) sNil) (sCons (sSet 7 (f2 gAdd (f2 (gI CPow fun i j => .int (i ^ j.toNat)) (fC (.dat (.int (10)))) (fC (.dat (.int (59))))) (fCall 2 F_draw (fCons (fVar 2) (fCons (f2 (gI CPow fun i j => .int (i ^ j.toNat)) (fC (.dat (.int (10)))) (fC (.dat (.int (9))))) fNil))))) (sCons (sSet 8 (fB (g1 gTuple) (fCons (fLc [18] (iSeq tK (fFrz 5)) (gN 18) fYes (fIf (fTest (fCall 1 F_wholeA (fCons (fVar 18) fNil))) (f2 gIx (fDisp .newl (fCons (fFrz 7) (fCons (f1 gNeg (fVar 7)) fNil))) (fCall 2 F_draw (fCons (fVar 2) (fCons (fC (.dat (.int (2)))) fNil)))) (fFrz 18))) fNil))) (sCons (sSet 9 (fCall 2 F_lineOf (fCons (fFrz 3) (fCons (fVar 8) fNil)))) (sCons (sIf (fOr (fTest (f2 gNeZ (fCall 2 (F_readX C D_InvalidText) (fCons (fVar 4) (fCons (fVar 9) fNil))) (fVar 8))) (fTest (f2 gNeZ (fCall 2 (F_verTX C D_InvalidVersion) (fCons (fVar 4) (fCons (fVar 8) fNil))) (fVar 9)))) (sRet (fC (.dat (.bool false)))) sNil) (sCons (sFor (iR1 (fCons (fC (.dat (.int (8)))) fNil)) (gN 10) (sCons (sSet 11 (fCall 2 F_bent17 (fCons (fVar 2) (fCons (fVar 6) fNil)))) (sCons (sIf (fTest (f2 gEq (fCall 2 F_draw (fCons (fVar 2) (fCons (fC (.dat (.int (3)))) fNil))) (fC (.dat (.int (0)))))) (sSet 11 (fCall 2 F_bent17 (fCons (fVar 2) (fCons (fVar 11) fNil)))) sNil) (sCons (sSet 12 (fCall 2 F_rowIn (fCons (fFrz 3) (fCons (fVar 11) fNil)))) (sCons (sSet 13 (fIf (fTest (f2 (gIsN false) (fVar 12) (fC (.dat (.none))))) (fDisp .newl (fCons (fC (.dat (.str "line"))) (fCons (fC (.dat (.int (1)))) fNil))) (fDisp .newl (fCons (fC (.dat (.str "read"))) (fCons (fFrz 12) fNil))))) (sIf (fAnd (fTest (fCall 1 F_short (fCons (fVar 11) fNil))) (fTest (f2 (gEqT true) (fB (g1 gReprX) (fCons (fCall 2 (F_met17 C) (fCons (fVar 4) (fCons (fVar 11) fNil))) fNil)) (fB (g1 gReprX) (fCons (fVar 13) fNil))))) (sRet (fC (.dat (.bool false)))) sNil)))))) (sCons (sFor (iSeq lK (fDisp .newl (fCons (fC (.dat (.none))) (fCons (fC (.dat (.int (0)))) (fCons (fC (.dat (.bool true))) (fCons (fDisp .newl (fCons (fFrz 6) fNil)) (fCons (fDisp .newt (fCons (fFrz 6) fNil)) (fCons (fFrz 5) (fCons (fD0) (fCons (f2 (gI CPow fun i j => .int (i ^ j.toNat)) (fC (.dat (.int (10)))) (fC (.dat (.int (20))))) fNil)))))))))) (gN 14) (sIf (fTest (f2 gNeZ (fCall 2 (F_met17 C) (fCons (fVar 4) (fCons (fVar 14) fNil))) (fDisp .newl (fCons (fC (.dat (.str "line"))) (fCons (fC (.dat (.int (0)))) fNil))))) (sRet (fC (.dat (.bool false)))) sNil)) (sCons (sPar 15 16 (fCons (f2 gIx (fDisp .newl (fCons (fB (g1 gList) (fCons (fVar 5) fNil)) (fCons (fSl (fVar 5) (oSome (fC (.dat (.int (1))))) oNone) (fCons (fC (.dat (.none))) (fCons (f2 gAdd (fVar 5) (fDisp .newt (fCons (fC (.dat (.str "a"))) fNil))) fNil))))) (fCall 2 F_draw (fCons (fVar 2) (fCons (fC (.dat (.int (4)))) fNil)))) (fCons (fC (.dat (.str "returned"))) fNil))) (sCons (sTryAs 17 D_InvalidVersion (sExpr (fCall 2 (F_verTX C D_InvalidVersion) (fCons (fVar 4) (fCons (fVar 15) fNil)))) (fun a dd => (sSet 16 (fXf 17 a D_InvalidVersion dd "version")))) (sIf (fTest (f2 (gEqT true) (fB (g1 gReprX) (fCons (fVar 16) fNil)) (fB (g1 gReprX) (fCons (fVar 15) fNil)))) (sRet (fC (.dat (.bool false)))) sNil)))))))))))))))) (sRet (fC (.dat (.bool true)))))
end KQ
set_option Elab.async false
set_option linter.all false
set_option maxRecDepth 100000
namespace KQ
open PySem PySem.Spec PyProof.Rows L2 Evl Kc Kz Kx Tr Mg K23 K22 K27 K24 KA KB KF TL
open PySem.NumText (digitsVal AllDigits)
open KP (revD digs tl_app sh_low)
theorem back {l : List Nat} (h : ∀ c ∈ l, c < 128) : (l.map Char.ofNat).map Char.toNat = l := by
  rw [List.map_map]
  have low : ∀ c : Nat, c < 128 → (Char.ofNat c).toNat = c := by decide +kernel
  exact (List.map_congr_left (g := id) fun c at_ => low c (h c at_)).trans (List.map_id l)
end KQ
set_option Elab.async false
set_option linter.all false
set_option maxRecDepth 100000
namespace KQ
open PySem PySem.Spec PyProof.Rows L2 Evl Kc Kz Kx Tr Mg K23 K22 K27 K24 KA KB KF TL
open KP (revD digs tl_app sh_low)
end KQ
set_option Elab.async false
set_option linter.all false
set_option maxRecDepth 100000
namespace KQ
open PySem PySem.Spec PyProof.Rows L2 Evl Kc Kz Kx Tr Mg K23 K22 K27 K24 KA KB KF TL
open PySem.NumText (digitsVal AllDigits)
open KP (revD digs tl_app sh_low stI stO)
end KQ
set_option Elab.async false
set_option linter.all false
set_option maxRecDepth 100000
namespace KQ
open PySem PySem.Spec PyProof.Rows L2 Evl Kc Kz Kx Tr Mg K23 K22 K27 K24 KA KB KF TL
open PySem.NumText (digitsVal AllDigits digitsVal_pos digitsVal_zero)
open KP (revD digs tl_app sh_low)
end KQ
set_option Elab.async false
set_option linter.all false
set_option maxRecDepth 100000
namespace KQ
open PySem PySem.Spec PyProof.Rows L2 Evl Kc Kz Kx Tr Mg K23 K22 K27 K24 KA KB KF TL
open PySem.NumText (digitsVal AllDigits digitsVal_pos digitsVal_zero)
open KP (sh_low)
theorem tl_to (z : Str) (n : Nat) : tl (cutS z none (some (n : Int))) = (tl z).take n := by
  show (List.toArray _).toList = _
  rw [List.toList_toArray, HT.sIx_none, HT.sIx_nat, List.drop_zero, Nat.sub_zero]
  have l : (tl z).length = z.length := (len_tl z).symm
  have l2 : z.cps.toList.length = z.length := l
  by_cases h : n ≤ z.length
  · rw [Nat.min_eq_left h]
  · rw [Nat.min_eq_right (by omega), List.take_of_length_le (by omega), List.take_of_length_le (l := tl z) (by omega)]
theorem tl_from (z : Str) (n : Nat) : tl (cutS z (some (n : Int)) none) = (tl z).drop n := by
  show (List.toArray _).toList = _
  rw [List.toList_toArray, HT.sIx_none, HT.sIx_nat]
  have l : (tl z).length = z.length := (len_tl z).symm
  by_cases h : n ≤ z.length
  · rw [Nat.min_eq_left h]
    exact List.take_of_length_le (by rw [List.length_drop, l]; exact Nat.le_refl _)
  · rw [Nat.min_eq_right (by omega), Nat.sub_self, List.take_zero, List.drop_eq_nil_of_le (by omega)]
end KQ
set_option Elab.async false
set_option linter.all false
set_option maxRecDepth 100000
namespace KQ
open PySem PySem.Spec PyProof.Rows L2 Evl Kc Kz Kx Tr Mg K23 K22 K27 K24 KA KB KF TL
open KP (sh_low)
theorem joinL_mem (s : List Nat) : ∀ (ps : List (List Nat)) {q : List Nat} {c : Nat}, q ∈ ps → c ∈ q → c ∈ joinL s ps
  | [], _, _, h, _ => nomatch h
  | [p], q, c, h, hc => by
    rw [List.mem_singleton.mp h] at hc
    exact hc
  | p :: r :: rs, q, c, h, hc => by
    show c ∈ p ++ (s ++ joinL s (r :: rs))
    obtain rfl | h := List.mem_cons.mp h
    · exact List.mem_append_left _ hc
    · exact List.mem_append_right _ (List.mem_append_right _ (joinL_mem s (r :: rs) h hc))
theorem part_tx {z p : Str} (hz : Tx z) (h : p ∈ Txt.split z ",") : Tx p := by
  refine ⟨Nat.le_trans (part_short h) hz.l, fun c hc => hz.w c ?_⟩
  have e : Str.join "," (Txt.split z ",") = z := StrLaws.join_split z ","
  rw [← e, tl_join]
  exact joinL_mem _ _ (List.mem_map.mpr ⟨p, h, rfl⟩) hc
theorem parts_len {z : Str} (hz : Tx z) : (Txt.split z ",").length ≤ 302 := Nat.le_trans (split_le z ",") (by have := hz.l; omega)
end KQ
set_option Elab.async false
set_option linter.all false
set_option maxRecDepth 100000
namespace KQ
open PySem PySem.Spec PyProof.Rows L2 Evl Kc Kz Kx Tr Mg K23 K22 K27 K24 KA KB KF TL
open KP (sh_low)
end KQ
set_option Elab.async false
set_option linter.all false
set_option maxRecDepth 100000
namespace KQ
open PySem PySem.Spec PyProof.Rows L2 Evl Kc Kz Kx Tr Mg K23 K22 K27 K24 KA KB KF TL
open KP (sh_low tl_app)
def upc (c : Nat) : Nat := if 97 ≤ c ∧ c ≤ 122 then c - 32 else c
theorem upper_tl : ∀ l : List Nat, (∀ c ∈ l, c < 128) → tl (Txt.upper ⟨l.toArray⟩) = l.map upc
  | [], _ => rfl
  | c :: l, h => by
    have e : (⟨(c :: l).toArray⟩ : Str) = ⟨#[c]⟩ ++ ⟨l.toArray⟩ := ext_tl (by rw [tl_app]; exact (List.toList_toArray ..).trans (congrArg (c :: ·) (List.toList_toArray ..).symm))
    rw [e, W.KOpn.upper_app, tl_app, W.KOpn.upper_one (h c List.mem_cons_self), upper_tl l fun q hq => h q (List.mem_cons_of_mem _ hq)]
    rfl
theorem upper_low {z : Str} (h : low z) : (Txt.upper z).length = z.length ∧ low (Txt.upper z) := by
  have e : z = ⟨(tl z).toArray⟩ := ext_tl (List.toList_toArray ..).symm
  have u := upper_tl (tl z) h
  rw [← e] at u
  refine ⟨by rw [len_tl, u, List.length_map, ← len_tl], fun c hc => ?_⟩
  rw [u] at hc
  obtain ⟨q, hq, rfl⟩ := List.mem_map.mp hc
  have := h q hq
  unfold upc
  split <;> omega
theorem low_app {a b : Str} (ha : low a) (hb : low b) : low (a ++ b) := fun c hc => by
  rw [tl_app] at hc
  rcases List.mem_append.mp hc with q | q
  · exact ha c q
  · exact hb c q
theorem joinL_len (s : List Nat) : ∀ l : List (List Nat), l ≠ [] → (joinL s l).length + s.length = (l.map List.length).sum + l.length * s.length
  | [], h => absurd rfl h
  | [p], _ => by
    show p.length + s.length = ([p.length]).sum + 1 * s.length
    rw [List.sum_cons, List.sum_nil]
    omega
  | p :: q :: r, _ => by
    have ih := joinL_len s (q :: r) (List.cons_ne_nil _ _)
    show (p ++ (s ++ joinL s (q :: r))).length + s.length = (p.length :: (q :: r).map List.length).sum + ((q :: r).length + 1) * s.length
    rw [List.length_append, List.length_append, List.sum_cons, Nat.succ_mul]
    omega
theorem joinL_all {s : List Nat} (hs : ∀ c ∈ s, c < 128) : ∀ l : List (List Nat), (∀ p ∈ l, ∀ c ∈ p, c < 128) → ∀ c ∈ joinL s l, c < 128
  | [], _, c, h => nomatch h
  | [p], w, c, h => w p (List.mem_singleton_self p) c h
  | p :: q :: r, w, c, h => by
    have h : c ∈ p ++ (s ++ joinL s (q :: r)) := h
    rcases List.mem_append.mp h with in1 | in2
    · exact w p List.mem_cons_self c in1
    · rcases List.mem_append.mp in2 with in3 | in4
      · exact hs c in3
      · exact joinL_all hs (q :: r) (fun p hp => w p (List.mem_cons_of_mem _ hp)) c in4
/-- one part in the place of another -/
theorem swap_part {z p w : Str} {A B : List Str} (hz : Tx z) (e : Txt.split z "," = A ++ p :: B) (hw : w.length ≤ p.length + 8) (lw : low w) : (Txt.join "," (A ++ w :: B)).length ≤ z.length + 8 ∧ low (Txt.join "," (A ++ w :: B)) := by
  have ez : Str.join "," (A ++ p :: B) = z := by rw [← e]; exact StrLaws.join_split z ","
  have l1 := joinL_len (tl ",") ((A ++ p :: B).map tl) (by simp)
  have l2 := joinL_len (tl ",") ((A ++ w :: B).map tl) (by simp)
  have z1 : (joinL (tl ",") ((A ++ p :: B).map tl)).length = z.length := by rw [← tl_join, ez, ← len_tl]
  have z2 : (joinL (tl ",") ((A ++ w :: B).map tl)).length = (Txt.join "," (A ++ w :: B)).length := by rw [← tl_join, ← join_eq, ← len_tl]
  have s1 : ((A ++ p :: B).map tl).map List.length = A.map (·.length) ++ p.length :: B.map (·.length) := by
    rw [List.map_map, List.map_append, List.map_cons]
    have f : (List.length ∘ tl) = fun z : Str => z.length := funext fun z => (len_tl z).symm
    rw [f]
  have s2 : ((A ++ w :: B).map tl).map List.length = A.map (·.length) ++ w.length :: B.map (·.length) := by
    rw [List.map_map, List.map_append, List.map_cons]
    have f : (List.length ∘ tl) = fun z : Str => z.length := funext fun z => (len_tl z).symm
    rw [f]
  rw [s1, List.sum_append, List.sum_cons, z1, List.length_map, List.length_append, List.length_cons] at l1
  rw [s2, List.sum_append, List.sum_cons, z2, List.length_map, List.length_append, List.length_cons] at l2
  refine ⟨by omega, fun c hc => ?_⟩
  rw [join_eq, tl_join] at hc
  refine joinL_all (s := tl ",") (by decide +kernel) _ (fun q hq => ?_) c hc
  obtain ⟨y, hy, rfl⟩ := List.mem_map.mp hq
  have ok : ∀ y ∈ A ++ p :: B, low y := fun y hy => (part_tx hz (by rw [e]; exact hy)).w
  rcases List.mem_append.mp hy with h | h
  · exact ok y (List.mem_append_left _ h)
  · obtain rfl | h := List.mem_cons.mp h
    · exact lw
    · exact ok y (List.mem_append_right _ (List.mem_cons_of_mem _ h))
end KQ
set_option Elab.async false
set_option linter.all false
set_option maxRecDepth 100000
namespace KQ
open PySem PySem.Spec PyProof.Rows L2 Evl Kc Kz Kx Tr Mg K23 K22 K27 K24 KA KB KF TL
open KP (sh_low tl_app)
abbrev st9 (z : Str) (n : Nat) (w : Int) (c4 c5 c6 c7 c8 : Option AV) : S := [some (.pot true), some (.dat (.str z)), some (.dat (.int (n : Int))), some (.dat (.int w)), c4, c5, c6, c7, c8]
def Fine (z y : Str) : Prop := y.length ≤ z.length + 9 ∧ low y
theorem len_to (z : Str) (n : Nat) : (cutS z none (some (n : Int))).length ≤ n ∧ (cutS z none (some (n : Int))).length + (cutS z (some (n : Int)) none).length = z.length ∧ (cutS z (some ((n : Int) + 1)) none).length ≤ (cutS z (some (n : Int)) none).length := by
  have a := tl_to z n
  have b := tl_from z n
  have c := tl_from z (n + 1)
  have e : ((n + 1 : Nat) : Int) = (n : Int) + 1 := rfl
  rw [e] at c
  rw [len_tl, len_tl (cutS z (some (n : Int)) none), len_tl (cutS z (some ((n : Int) + 1)) none), a, b, c, len_tl z]
  refine ⟨List.length_take_le _ _, ?_, ?_⟩
  · rw [← List.length_append, List.take_append_drop]
  · simp only [List.length_drop]
    omega
theorem low_to {z : Str} (h : low z) (n : Nat) : low (cutS z none (some (n : Int))) ∧ low (cutS z (some (n : Int)) none) ∧ low (cutS z (some ((n : Int) + 1)) none) := by
  refine ⟨fun c hc => ?_, fun c hc => ?_, fun c hc => ?_⟩
  · rw [tl_to] at hc
    exact h c (List.mem_of_mem_take hc)
  · rw [tl_from] at hc
    exact h c (List.mem_of_mem_drop hc)
  · rw [show (n : Int) + 1 = ((n + 1 : Nat) : Int) from rfl, tl_from] at hc
    exact h c (List.mem_of_mem_drop hc)
section
variable {z o : Str} {n : Nat} {w : Int} {k : AV → Prop} {x : KX} {c5 c6 c7 c8 : Option AV}
abbrev R0 : FS := (sRet (f2 gAdd (f2 gAdd (fSl (fVar 1) oNone (oSome (fVar 2))) (fVar 4)) (fSl (fVar 1) (oSome (fVar 2)) oNone)))
abbrev R1 : FS := (sRet (f2 gAdd (fSl (fVar 1) oNone (oSome (fVar 2))) (fSl (fVar 1) (oSome (f2 gAdd (fVar 2) (fC (.dat (.int (1)))))) oNone)))
abbrev R2 : FS := (sRet (f2 gAdd (f2 gAdd (fSl (fVar 1) oNone (oSome (fVar 2))) (fVar 4)) (fSl (fVar 1) (oSome (f2 gAdd (fVar 2) (fC (.dat (.int (1)))))) oNone)))
theorem r0_run (hz : Tx z) (ho : o.length = 1) (lo : low o) (hk : ∀ y, Fine z y → k (.dat (.str y))) : R0 (st9 z n w (some (.dat (.str o))) c5 c6 c7 c8) (Ok k) x := by
  have big : 1000 ≤ sizeLine := by decide
  have l := hz.l
  obtain ⟨l1, l2, l3⟩ := len_to z n
  obtain ⟨w1, w2, w3⟩ := low_to hz.w n
  refine ⟨by omega, (show _ + o.length ≤ sizeLine by omega), by omega, (show (cutS z none (some (n : Int)) ++ o).length + _ ≤ sizeLine by rw [app_len]; omega), hk _ ⟨?_, low_app (low_app w1 lo) w2⟩⟩
  rw [app_len, app_len]
  omega
theorem r1_run (hz : Tx z) (hk : ∀ y, Fine z y → k (.dat (.str y))) : R1 (st9 z n w (some (.dat (.str o))) c5 c6 c7 c8) (Ok k) x := by
  have big : 1000 ≤ sizeLine := by decide
  have l := hz.l
  obtain ⟨l1, l2, l3⟩ := len_to z n
  obtain ⟨w1, w2, w3⟩ := low_to hz.w n
  refine ⟨by omega, by omega, (show (cutS z none (some (n : Int))).length + (cutS z (some ((n : Int) + 1)) none).length ≤ sizeLine by omega), hk _ ⟨?_, low_app w1 w3⟩⟩
  rw [app_len]
  omega
def W10 (p : Str) : List Str := ["", "0" ++ p, "-" ++ p, "-0", "00", p ++ "abcdefgh", "+1", Txt.upper p, "1_0", " " ++ p]
theorem w10_ok {p : Str} (h : low p) : ∀ y ∈ W10 p, y.length ≤ p.length + 8 ∧ low y := fun y hy => by
  have c1 : ∀ y ∈ (["", "0", "-", "-0", "00", "abcdefgh", "+1", "1_0", " "] : List Str), y.length ≤ 8 ∧ low y := by
    intro y hy
    have : ∀ y ∈ (["", "0", "-", "-0", "00", "abcdefgh", "+1", "1_0", " "] : List Str), y.length ≤ 8 ∧ (tl y).all (fun c => decide (c < 128)) = true := by decide +kernel
    obtain ⟨a, b⟩ := this y hy
    exact ⟨a, fun c hc => of_decide_eq_true (List.all_eq_true.mp b c hc)⟩
  unfold W10 at hy
  simp only [List.mem_cons, List.not_mem_nil, or_false] at hy
  rcases hy with rfl | rfl | rfl | rfl | rfl | rfl | rfl | rfl | rfl | rfl
  · obtain ⟨a, b⟩ := c1 "" (by simp); exact ⟨by omega, b⟩
  · obtain ⟨a, b⟩ := c1 "0" (by simp); exact ⟨by rw [app_len]; omega, low_app b h⟩
  · obtain ⟨a, b⟩ := c1 "-" (by simp); exact ⟨by rw [app_len]; omega, low_app b h⟩
  · obtain ⟨a, b⟩ := c1 "-0" (by simp); exact ⟨by omega, b⟩
  · obtain ⟨a, b⟩ := c1 "00" (by simp); exact ⟨by omega, b⟩
  · obtain ⟨a, b⟩ := c1 "abcdefgh" (by simp); exact ⟨by rw [app_len]; omega, low_app h b⟩
  · obtain ⟨a, b⟩ := c1 "+1" (by simp); exact ⟨by omega, b⟩
  · obtain ⟨a, b⟩ := upper_low h; exact ⟨by omega, b⟩
  · obtain ⟨a, b⟩ := c1 "1_0" (by simp); exact ⟨by omega, b⟩
  · obtain ⟨a, b⟩ := c1 " " (by simp); exact ⟨by rw [app_len]; omega, low_app b h⟩
abbrev R3 : FS := (sRet (fMeth gJoin (fC (.dat (.str ","))) (fCons (f2 gAdd (f2 gAdd (fSl (fVar 5) oNone (oSome (fVar 6))) (fDisp .newl (fCons (f2 gIx (fVar 8) (fCall 2 F_draw (fCons (fVar 0) (fCons (fC (.dat (.int (10)))) fNil)))) fNil))) (fSl (fVar 5) (oSome (f2 gAdd (fVar 6) (fC (.dat (.int (1)))))) oNone)) fNil)))
theorem r3_run {m : Nat} {p : Str} {c7 : Option AV} (hz : Tx z) (hp : (Txt.split z ",")[m]? = some p) (hk : ∀ y, Fine z y → k (.dat (.str y))) : R3 (st9 z n w (some (.dat (.str o))) (some (.own false (.list (sts (Txt.split z ","))))) (some (.dat (.int (m : Int)))) c7 (some (.own false (.list (sts (W10 p)))))) (Ok k) x := by
  have big : 1000 ≤ sizeLine := by decide
  have pl := parts_len hz
  have ml : m < (Txt.split z ",").length := (List.getElem?_eq_some_iff.mp hp).1
  have tp := part_tx hz (List.mem_of_getElem? hp)
  have ec : Txt.split z "," = (Txt.split z ",").take m ++ p :: (Txt.split z ",").drop (m + 1) := by
    have e : (Txt.split z ",").drop m = p :: (Txt.split z ",").drop (m + 1) := by
      rw [List.drop_eq_getElem_cons ml]
      rw [List.getElem?_eq_getElem ml] at hp
      rw [Option.some.inj hp]
    rw [← e, List.take_append_drop]
  have sl : (sts (Txt.split z ",")).length = (Txt.split z ",").length := List.length_map _
  have d1 : Tr.cutD (sts (Txt.split z ",")) none (some (m : Int)) = sts ((Txt.split z ",").take m) := (cut_to (by omega)).trans List.map_take.symm
  have d2 : Tr.cutD (sts (Txt.split z ",")) (some ((m : Int) + 1)) none = sts ((Txt.split z ",").drop (m + 1)) := (cut_from (n := m + 1) (by omega)).trans List.map_drop.symm
  refine ⟨⟨_, rfl⟩, Nat.le_refl 1, rfl, 10, rfl, by decide, by decide, fun t t0 t1 => ⟨.inl rfl, ?_⟩⟩
  obtain ⟨q, v, rfl, hv, e⟩ := atI_get (xs := sts (W10 p)) t0 t1
  rw [List.getElem?_map] at hv
  obtain ⟨y, hy, rfl⟩ := Option.map_eq_some_iff.mp hv
  obtain ⟨yl, yw⟩ := w10_ok tp.w y (List.mem_of_getElem? hy)
  obtain ⟨j1, j2⟩ := swap_part hz ec yl yw
  have lt : ((Txt.split z ",").take m).length ≤ 302 := Nat.le_trans (List.length_take_le' _ _) pl
  have lr : ((Txt.split z ",").drop (m + 1)).length ≤ 302 := by rw [List.length_drop]; omega
  have whole : sts ((Txt.split z ",").take m) ++ [PyData.str y] ++ sts ((Txt.split z ",").drop (m + 1)) = sts ((Txt.split z ",").take m ++ y :: (Txt.split z ",").drop (m + 1)) := by
    rw [sts_app, List.append_assoc]
    rfl
  refine ⟨.str y, e, sz (by simp), ?_, ?_, ?_⟩
  · show (Tr.cutD (sts (Txt.split z ",")) none (some (m : Int))).length + 1 ≤ sizeLine
    rw [d1, List.length_map]
    omega
  · show (Tr.cutD (sts (Txt.split z ",")) none (some (m : Int)) ++ [PyData.str y]).length + (Tr.cutD (sts (Txt.split z ",")) (some ((m : Int) + 1)) none).length ≤ sizeLine
    rw [d1, d2, List.length_append, List.length_map, List.length_map]
    show _ + 1 + _ ≤ _
    omega
  · show strsK (Tr.cutD (sts (Txt.split z ",")) none (some (m : Int)) ++ [PyData.str y] ++ Tr.cutD (sts (Txt.split z ",")) (some ((m : Int) + 1)) none) _
    rw [d1, d2, whole]
    have ok : ∀ s ∈ (Txt.split z ",").take m ++ y :: (Txt.split z ",").drop (m + 1), s.length ≤ 308 := fun s hs => by
      rcases List.mem_append.mp hs with h | h
      · exact Nat.le_trans (part_tx hz (List.mem_of_mem_take h)).l (by decide)
      · obtain rfl | h := List.mem_cons.mp h
        · have := tp.l; omega
        · exact Nat.le_trans (part_tx hz (List.mem_of_mem_drop h)).l (by decide)
    refine strs_of ⟨?_, hk _ ⟨by omega, j2⟩⟩
    have s := KP.sum_le ok
    have len : ((Txt.split z ",").take m ++ y :: (Txt.split z ",").drop (m + 1)).length ≤ 605 := by
      rw [List.length_append, List.length_cons]
      omega
    have := Nat.mul_le_mul_right 308 len
    show _ + _ * 1 ≤ _
    omega
end
end KQ
set_option Elab.async false
set_option linter.all false
set_option maxRecDepth 100000
namespace KR
open PySem PySem.Spec PyProof.Rows L2 Evl Kc Kz Kx Tr Mg K23 K22 K27 K24 KA KB KI TL
open KP (sh_low tl_app)
open KQ (joinL_len joinL_all low_app upper_low upper_tl upc)
theorem words_free {z p : Str} (h : p ∈ Txt.split z " ") : 32 ∉ tl p := StrLaws.split_free z 32 p (by
  have e : (⟨#[32]⟩ : Str) = " " := by decide +kernel
  rw [e]
  exact h)
theorem words_low {z p : Str} (lz : low z) (h : p ∈ Txt.split z " ") : low p := fun c hc => lz c (by
  have e : Str.join " " (Txt.split z " ") = z := StrLaws.join_split z " "
  rw [← e, tl_join]
  exact KQ.joinL_mem _ _ (List.mem_map.mpr ⟨p, h, rfl⟩) hc)
theorem joinL_cnt {s : Nat} : ∀ l : List (List Nat), l ≠ [] → (∀ p ∈ l, s ∉ p) → (joinL [s] l).count s + 1 = l.length
  | [], h, _ => absurd rfl h
  | [p], _, h => by
    show p.count s + 1 = 1
    rw [List.count_eq_zero_of_not_mem (h p (List.mem_singleton_self p))]
  | p :: q :: r, _, h => by
    have ih := joinL_cnt (q :: r) (List.cons_ne_nil _ _) fun y hy => h y (List.mem_cons_of_mem _ hy)
    show (p ++ ([s] ++ joinL [s] (q :: r))).count s + 1 = (q :: r).length + 1
    rw [List.count_append, List.count_append, List.count_singleton_self, List.count_eq_zero_of_not_mem (h p List.mem_cons_self)]
    omega
def Alts (p : Str) : List (List Str) := [[], [p, p], ["x:count"], ["mine"], [Txt.upper p], [p ++ ":mine"], ["counter:mine"], [""], ["a:counter", "b:counter", "c:counter", "d:counter"]]
def OkX (m n : Nat) (X : List Str) : Prop := X.length ≤ 4 ∧ (X.map (·.length)).sum + X.length ≤ 2 * m + 45 ∧ ∀ q ∈ X, low q ∧ 32 ∉ tl q ∧ q.length ≤ n + 14
theorem upper_free {p : Str} (lp : low p) (h : 32 ∉ tl p) : 32 ∉ tl (Txt.upper p) := by
  have e : p = ⟨(tl p).toArray⟩ := ext_tl (List.toList_toArray ..).symm
  have u := upper_tl (tl p) lp
  rw [← e] at u
  rw [u]
  intro hc
  obtain ⟨q, hq, eq⟩ := List.mem_map.mp hc
  unfold upc at eq
  split at eq
  · omega
  · rw [eq] at hq
    exact h hq
theorem alts_ok {p : Str} {m n : Nat} (lp : low p) (fp : 32 ∉ tl p) (pm : p.length ≤ m) (pn : p.length ≤ n) : ∀ X ∈ Alts p, OkX m n X := by
  have c1 : ∀ q ∈ (["x:count", "mine", ":mine", "counter:mine", "", "a:counter", "b:counter", "c:counter", "d:counter"] : List Str), low q ∧ 32 ∉ tl q ∧ q.length ≤ 12 := by
    intro q hq
    have t : ∀ q ∈ (["x:count", "mine", ":mine", "counter:mine", "", "a:counter", "b:counter", "c:counter", "d:counter"] : List Str), (tl q).all (fun c => decide (c < 128)) = true ∧ 32 ∉ tl q ∧ q.length ≤ 12 := by decide +kernel
    obtain ⟨a, b, c⟩ := t q hq
    exact ⟨fun c hc => of_decide_eq_true (List.all_eq_true.mp a c hc), b, c⟩
  have one : ∀ q : Str, low q → 32 ∉ tl q → q.length ≤ p.length + 12 → OkX m n [q] := fun q a b c => by
    refine ⟨by simp, ?_, fun y hy => ?_⟩
    · show q.length + 0 + 1 ≤ _
      omega
    · rw [List.mem_singleton.mp hy]
      exact ⟨a, b, by omega⟩
  have con : ∀ q ∈ (["x:count", "mine", ":mine", "counter:mine", "", "a:counter", "b:counter", "c:counter", "d:counter"] : List Str), OkX m n [q] := fun q hq => by
    obtain ⟨a, b, c⟩ := c1 q hq
    exact one q a b (by omega)
  intro X hX
  unfold Alts at hX
  simp only [List.mem_cons, List.not_mem_nil, or_false] at hX
  rcases hX with rfl | rfl | rfl | rfl | rfl | rfl | rfl | rfl | rfl
  · exact ⟨by decide, Nat.zero_le _, nofun⟩
  · refine ⟨by simp, ?_, fun y hy => ?_⟩
    · show p.length + (p.length + 0) + 2 ≤ _
      omega
    · have : y = p := by simpa using hy
      rw [this]
      exact ⟨lp, fp, by omega⟩
  · exact con _ (by simp)
  · exact con _ (by simp)
  · obtain ⟨a, b⟩ := upper_low (z := p) lp
    exact one _ b (upper_free lp fp) (by omega)
  · obtain ⟨a, b, c⟩ := c1 ":mine" (by simp)
    refine one _ (low_app lp a) ?_ ?_
    · rw [tl_app]
      intro hc
      rcases List.mem_append.mp hc with y | y
      · exact fp y
      · exact b y
    · rw [app_len]
      show _ + 5 ≤ _
      omega
  · exact con _ (by simp)
  · exact con _ (by simp)
  · refine ⟨by decide, ?_, fun y hy => ?_⟩
    · show 9 + (9 + (9 + (9 + 0))) + 4 ≤ _
      omega
    · obtain ⟨a, b, c⟩ := c1 y (by simp only [List.mem_cons, List.not_mem_nil, or_false] at hy ⊢; rcases hy with h | h | h | h <;> simp [h])
      exact ⟨a, b, by omega⟩
def Fine (m : Nat) (z y : Str) : Prop := y.length ≤ z.length + 2 * m + 45 ∧ low y ∧ (tl y).count 32 ≤ (tl z).count 32 + 5 ∧ ∀ p ∈ Txt.split y " ", p.length ≤ z.length + 14
/-- some words in the place of others -/
theorem swap_ok {z : Str} {X : List Str} {m i j : Nat} (lz : low z) (ij : i ≤ j) (ok : OkX m z.length X) : Fine m z (Txt.join " " ((Txt.split z " ").take i ++ X ++ (Txt.split z " ").drop j)) := by
  have ez : Str.join " " (Txt.split z " ") = z := StrLaws.join_split z " "
  have nz := words_some z
  have one : tl " " = [32] := by decide +kernel
  have fz : ∀ p ∈ Txt.split z " ", low p ∧ 32 ∉ tl p ∧ p.length ≤ z.length := fun p hp => ⟨words_low lz hp, words_free hp, cut_short hp⟩
  have z1 : tl z = joinL [32] ((Txt.split z " ").map tl) := by
    conv => lhs; rw [← ez]
    rw [tl_join, one]
  have cz := joinL_cnt (s := 32) ((Txt.split z " ").map tl) (by simpa using nz) fun p hp => by
    obtain ⟨q, at_, rfl⟩ := List.mem_map.mp hp
    exact (fz q at_).2.1
  have lzz := joinL_len [32] ((Txt.split z " ").map tl) (by simpa using nz)
  rw [← z1, List.length_map] at cz lzz
  generalize Txt.split z " " = ws at *
  have sumz : (ws.map tl).map List.length = ws.map (·.length) := by
    rw [List.map_map]
    exact List.map_congr_left fun y _ => (len_tl y).symm
  rw [sumz, ← len_tl] at lzz
  have t1 : ((ws.take i).map (·.length)).sum + ((ws.drop i).map (·.length)).sum = (ws.map (·.length)).sum := by
    rw [← List.sum_append, ← List.map_append, List.take_append_drop]
  have t2 : ((ws.drop j).map (·.length)).sum ≤ ((ws.drop i).map (·.length)).sum := by
    have e : ws.drop j = (ws.drop i).drop (j - i) := by rw [List.drop_drop]; congr 1; omega
    have := List.take_append_drop (j - i) (ws.drop i)
    rw [e]
    conv => rhs; rw [← this]
    rw [List.map_append, List.sum_append]
    omega
  have n1 : (ws.take i).length + (ws.drop j).length ≤ ws.length := by
    rw [List.length_take (l := ws), List.length_drop]
    omega
  obtain ⟨x1, x2, x3⟩ := ok
  have parts : ∀ q ∈ ws.take i ++ X ++ ws.drop j, low q ∧ 32 ∉ tl q ∧ q.length ≤ z.length + 14 := fun q hq => by
    rcases List.mem_append.mp hq with h | h
    · rcases List.mem_append.mp h with in1 | in2
      · obtain ⟨a, b, c⟩ := fz q (List.mem_of_mem_take in1)
        exact ⟨a, b, by omega⟩
      · exact x3 q in2
    · obtain ⟨a, b, c⟩ := fz q (List.mem_of_mem_drop h)
      exact ⟨a, b, by omega⟩
  have many : (ws.take i ++ X ++ ws.drop j).length = (ws.take i).length + X.length + (ws.drop j).length := by rw [List.length_append, List.length_append]
  have total : ((ws.take i ++ X ++ ws.drop j).map (·.length)).sum = ((ws.take i).map (·.length)).sum + (X.map (·.length)).sum + ((ws.drop j).map (·.length)).sum := by rw [List.map_append, List.map_append, List.sum_append, List.sum_append]
  generalize ws.take i ++ X ++ ws.drop j = L at *
  by_cases ne : L = []
  · rw [ne]
    have e : Txt.join " " ([] : List Str) = "" := by decide +kernel
    rw [e]
    refine ⟨Nat.zero_le _, by intro c hc; exact absurd hc (by show c ∉ ([] : List Nat); simp), Nat.zero_le _, fun p hp => ?_⟩
    have := cut_short hp
    show p.length ≤ _
    have e0 : ("" : Str).length = 0 := rfl
    omega
  · have y1 : tl (Txt.join " " L) = joinL [32] (L.map tl) := by rw [join_eq, tl_join, one]
    have cy := joinL_cnt (s := 32) (L.map tl) (by simpa using ne) fun p hp => by
      obtain ⟨q, at_, rfl⟩ := List.mem_map.mp hp
      exact (parts q at_).2.1
    have ly := joinL_len [32] (L.map tl) (by simpa using ne)
    have sumy : (L.map tl).map List.length = L.map (·.length) := by
      rw [List.map_map]
      exact List.map_congr_left fun y _ => (len_tl y).symm
    rw [← y1, List.length_map] at cy ly
    rw [sumy, ← len_tl] at ly
    have l1 : ([32] : List Nat).length = 1 := rfl
    rw [l1, Nat.mul_one] at ly lzz
    refine ⟨by omega, fun c hc => ?_, by omega, fun p hp => ?_⟩
    · rw [y1] at hc
      refine joinL_all (s := [32]) (by decide) _ (fun q hq => ?_) c hc
      obtain ⟨y, hy, rfl⟩ := List.mem_map.mp hq
      exact (parts y hy).1
    · rw [split_join (y := " ") (s := 32) (S := []) one (by decide +kernel) ne fun q hq => (parts q hq).2.1] at hp
      exact (parts p hp).2.2
end KR
set_option Elab.async false
set_option linter.all false
set_option maxRecDepth 100000
namespace KR
open PySem PySem.Spec PyProof.Rows L2 Evl Kc Kz Kx Tr Mg K23 K22 K27 K24 KA KB KI TL
open KP (sh_low tl_app)
open KQ (low_app len_to low_to)
abbrev st8 (z : Str) (n : Nat) (w : Int) (c4 c5 c6 c7 : Option AV) : S := [some (.pot true), some (.dat (.str z)), some (.dat (.int (n : Int))), some (.dat (.int w)), c4, c5, c6, c7]
theorem cut_mid {ds : List D} {n : Nat} (h : n < ds.length) : Tr.cutD ds (some (n : Int)) (some ((n : Int) + 1)) = (ds.drop n).take 1 := by
  unfold Tr.cutD
  rw [show (n : Int) + 1 = ((n + 1 : Nat) : Int) from rfl, HT.sIx_nat, HT.sIx_nat, Nat.min_eq_left (by omega), Nat.min_eq_left (by omega), Nat.add_sub_cancel_left]
theorem cnt_cut (z : Str) (n : Nat) : (tl (cutS z none (some (n : Int)))).count 32 + (tl (cutS z (some (n : Int)) none)).count 32 = (tl z).count 32 ∧ (tl (cutS z (some ((n : Int) + 1)) none)).count 32 ≤ (tl (cutS z (some (n : Int)) none)).count 32 := by
  rw [show (n : Int) + 1 = ((n + 1 : Nat) : Int) from rfl, KQ.tl_to, KQ.tl_from, KQ.tl_from]
  constructor
  · rw [← List.count_append, List.take_append_drop]
  · rw [show (tl z).drop (n + 1) = ((tl z).drop n).drop 1 by rw [List.drop_drop]]
    exact List.Sublist.count_le _ (List.drop_sublist _ _)
section
variable {z o : Str} {n m : Nat} {w : Int} {k : AV → Prop} {x : KX} {c5 c6 c7 : Option AV}
abbrev R0 : FS := (sRet (f2 gAdd (f2 gAdd (fSl (fVar 1) oNone (oSome (fVar 2))) (fVar 4)) (fSl (fVar 1) (oSome (fVar 2)) oNone)))
abbrev R1 : FS := (sRet (f2 gAdd (fSl (fVar 1) oNone (oSome (fVar 2))) (fSl (fVar 1) (oSome (f2 gAdd (fVar 2) (fC (.dat (.int (1)))))) oNone)))
theorem r0_run (hl : z.length ≤ 400) (lz : low z) (ho : o.length = 1) (lo : low o) (hk : ∀ y, Fine m z y → k (.dat (.str y))) : R0 (st8 z n w (some (.dat (.str o))) c5 c6 c7) (Ok k) x := by
  have big : 1000 ≤ sizeLine := by decide
  obtain ⟨l1, l2, l3⟩ := len_to z n
  obtain ⟨w1, w2, w3⟩ := low_to lz n
  obtain ⟨q1, q2⟩ := cnt_cut z n
  have co : (tl o).count 32 ≤ 1 := Nat.le_trans List.count_le_length (by rw [← len_tl, ho]; exact Nat.le_refl 1)
  have yl : (cutS z none (some (n : Int)) ++ o ++ cutS z (some (n : Int)) none).length = z.length + 1 := by
    rw [app_len, app_len]
    omega
  refine ⟨by omega, (show _ + o.length ≤ sizeLine by omega), by omega, (show (cutS z none (some (n : Int)) ++ o).length + _ ≤ sizeLine by rw [app_len]; omega), hk _ ⟨by omega, low_app (low_app w1 lo) w2, ?_, fun p hp => ?_⟩⟩
  · rw [tl_app, tl_app, List.count_append, List.count_append]
    omega
  · have := cut_short hp
    omega
theorem r1_run (hl : z.length ≤ 400) (lz : low z) (hk : ∀ y, Fine m z y → k (.dat (.str y))) : R1 (st8 z n w (some (.dat (.str o))) c5 c6 c7) (Ok k) x := by
  have big : 1000 ≤ sizeLine := by decide
  obtain ⟨l1, l2, l3⟩ := len_to z n
  obtain ⟨w1, w2, w3⟩ := low_to lz n
  obtain ⟨q1, q2⟩ := cnt_cut z n
  have yl : (cutS z none (some (n : Int)) ++ cutS z (some ((n : Int) + 1)) none).length ≤ z.length := by
    rw [app_len]
    omega
  refine ⟨by omega, by omega, (show (cutS z none (some (n : Int))).length + (cutS z (some ((n : Int) + 1)) none).length ≤ sizeLine by omega), hk _ ⟨by omega, low_app w1 w3, ?_, fun p hp => ?_⟩⟩
  · rw [tl_app, List.count_append]
    omega
  · have := cut_short hp
    omega
end
section
variable {z o : Str} {n m : Nat} {w : Int} {k : AV → Prop} {x : KX}
abbrev Disp1 : FE := (fDisp .newl (fCons (fDisp .newl fNil) (fCons (f2 gMul (fSl (fVar 5) (oSome (fVar 6)) (oSome (f2 gAdd (fVar 6) (fC (.dat (.int (1))))))) (fC (.dat (.int (2))))) (fCons (fDisp .newl (fCons (fC (.dat (.str "x:count"))) fNil)) (fCons (fDisp .newl (fCons (fC (.dat (.str "mine"))) fNil)) (fCons (fDisp .newl (fCons (fUp (f2 gIx (fVar 5) (fVar 6))) fNil)) (fCons (fDisp .newl (fCons (f2 gAdd (f2 gIx (fVar 5) (fVar 6)) (fC (.dat (.str ":mine")))) fNil)) fNil)))))))
abbrev Disp2 : FE := (f2 gAdd (fVar 7) (fDisp .newl (fCons (fDisp .newl (fCons (fC (.dat (.str "counter:mine"))) fNil)) (fCons (fDisp .newl (fCons (fC (.dat (.str ""))) fNil)) (fCons (fDisp .newl (fCons (fC (.dat (.str "a:counter"))) (fCons (fC (.dat (.str "b:counter"))) (fCons (fC (.dat (.str "c:counter"))) (fCons (fC (.dat (.str "d:counter"))) fNil))))) fNil)))))
abbrev R3 : FS := (sRet (fMeth gJoin (fC (.dat (.str " "))) (fCons (f2 gAdd (f2 gAdd (fSl (fVar 5) oNone (oSome (fVar 6))) (f2 gIx (fVar 7) (fCall 2 F_draw (fCons (fVar 0) (fCons (fC (.dat (.int (9)))) fNil))))) (fSl (fVar 5) (oSome (f2 gAdd (fVar 6) (f2 (gI (fun _ j => 0 < j) fun i j => .int (i % j)) (fVar 3) (fC (.dat (.int (2))))))) oNone)) fNil)))
def altD (p : Str) : List D := (Alts p).map fun X => .list (sts X)
theorem r3_run {t : Nat} {p : Str} (hl : z.length ≤ 400) (lz : low z) (cz : (tl z).count 32 ≤ 40) (wm : ∀ q ∈ Txt.split z " ", q.length ≤ m) (hp : (Txt.split z " ")[t]? = some p) (hk : ∀ y, Fine m z y → k (.dat (.str y))) :
    R3 (st8 z n w (some (.dat (.str o))) (some (.own false (.list (sts (Txt.split z " "))))) (some (.dat (.int (t : Int)))) (some (.own false (.list (altD p))))) (Ok k) x := by
  have big : 100000 ≤ sizeLine := by decide
  have mem := List.mem_of_getElem? hp
  have ml : t < (Txt.split z " ").length := (List.getElem?_eq_some_iff.mp hp).1
  have many : (Txt.split z " ").length ≤ 401 := Nat.le_trans (cut_many (z := z) (y := " ") rfl) (by omega)
  have sl : (sts (Txt.split z " ")).length = (Txt.split z " ").length := List.length_map _
  have d1 : Tr.cutD (sts (Txt.split z " ")) none (some (t : Int)) = sts ((Txt.split z " ").take t) := (cut_to (by omega)).trans List.map_take.symm
  refine ⟨⟨_, rfl⟩, Nat.le_refl 1, rfl, 9, rfl, by decide, by decide, fun q q0 q1 => ⟨.inl rfl, ?_⟩⟩
  obtain ⟨i, v, rfl, hv, e⟩ := atI_get (xs := altD p) q0 q1
  unfold altD at hv
  rw [List.getElem?_map] at hv
  obtain ⟨X, hX, rfl⟩ := Option.map_eq_some_iff.mp hv
  have ok := alts_ok (m := m) (n := z.length) (words_low lz mem) (words_free mem) (wm p mem) (cut_short mem) X (List.mem_of_getElem? hX)
  have x1 := ok.1
  obtain ⟨j, ej, tj, jl⟩ : ∃ j : Nat, (t : Int) + w % 2 = (j : Int) ∧ t ≤ j ∧ j ≤ (Txt.split z " ").length := ⟨t + (w % 2).toNat, by omega, by omega, by omega⟩
  have d2 : Tr.cutD (sts (Txt.split z " ")) (some (j : Int)) none = sts ((Txt.split z " ").drop j) := (cut_from (by omega)).trans List.map_drop.symm
  refine ⟨_, e, ?_, (show (0 : Int) < 2 by decide), ?_, ?_⟩
  · show (Tr.cutD (sts (Txt.split z " ")) none (some (t : Int))).length + (sts X).length ≤ sizeLine
    rw [d1, List.length_map, List.length_map, List.length_take]
    omega
  · show (Tr.cutD (sts (Txt.split z " ")) none (some (t : Int)) ++ sts X).length + (Tr.cutD (sts (Txt.split z " ")) (some ((t : Int) + w % 2)) none).length ≤ sizeLine
    rw [ej, d1, d2, List.length_append, List.length_map, List.length_map, List.length_map, List.length_take, List.length_drop]
    omega
  · show strsK (Tr.cutD (sts (Txt.split z " ")) none (some (t : Int)) ++ sts X ++ Tr.cutD (sts (Txt.split z " ")) (some ((t : Int) + w % 2)) none) _
    rw [ej, d1, d2, ← sts_app, ← sts_app]
    have fine := swap_ok (m := m) lz tj ok
    have short : ∀ s ∈ (Txt.split z " ").take t ++ X ++ (Txt.split z " ").drop j, s.length ≤ 414 := fun s hs => by
      rcases List.mem_append.mp hs with h | h
      · rcases List.mem_append.mp h with in1 | in2
        · have := cut_short (List.mem_of_mem_take in1)
          omega
        · have := (ok.2.2 s in2).2.2
          omega
      · have := cut_short (List.mem_of_mem_drop h)
        omega
    refine strs_of ⟨?_, hk _ fine⟩
    have s := KP.sum_le short
    have len : ((Txt.split z " ").take t ++ X ++ (Txt.split z " ").drop j).length ≤ 806 := by
      rw [List.length_append, List.length_append, List.length_take, List.length_drop]
      omega
    have := Nat.mul_le_mul_right 414 len
    have big2 : 400000 ≤ sizeLine := by decide
    show _ + _ * 1 ≤ _
    omega
abbrev WayW : FS := sCons (sSet 5 (fMeth gSplit (fVar 1) (fCons (fC (.dat (.str " "))) fNil))) (sCons (sSet 6 (fCall 2 F_draw (fCons (fVar 0) (fCons (fB (g1 gLen) (fCons (fVar 5) fNil)) fNil)))) (sCons (sSet 7 Disp1) (sCons (sSet 7 Disp2) R3)))
theorem way_run (hl : z.length ≤ 400) (lz : low z) (cz : (tl z).count 32 ≤ 40) (wm : ∀ q ∈ Txt.split z " ", q.length ≤ m) (hk : ∀ y, Fine m z y → k (.dat (.str y))) : WayW (st8 z n w (some (.dat (.str o))) none none none) (Ok k) x := by
  have big : 100000 ≤ sizeLine := by decide
  have many : (Txt.split z " ").length ≤ 401 := Nat.le_trans (cut_many (z := z) (y := " ") rfl) (by omega)
  have p1 : 0 < (Txt.split z " ").length := List.length_pos_iff.mpr (words_some z)
  have sl : (sts (Txt.split z " ")).length = (Txt.split z " ").length := List.length_map _
  refine ⟨⟨_, rfl⟩, rfl, (show z.length + 2 ≤ sizeLine by omega), ?_⟩
  refine pk (ρ := st8 z n w (some (.dat (.str o))) none none none) (k := fun ρ => sCons (sSet 6 (fCall 2 F_draw (fCons (fVar 0) (fCons (fB (g1 gLen) (fCons (fVar 5) fNil)) fNil)))) (sCons (sSet 7 Disp1) (sCons (sSet 7 Disp2) R3)) ρ (Ok k) x) (i := 5) (a := .own false (.list (sts (Txt.split z " ")))) (c := none) rfl .no rfl (fun _ => nofun) ?_
  refine ⟨Nat.le_refl 1, rfl, _, rfl, by rw [sl]; omega, by rw [sl]; omega, fun j j0 j1 => ⟨.inl rfl, ?_⟩⟩
  obtain ⟨t, v, rfl, hv, e⟩ := atI_get (xs := sts (Txt.split z " ")) j0 j1
  rw [List.getElem?_map] at hv
  obtain ⟨p, part_at, rfl⟩ := Option.map_eq_some_iff.mp hv
  have ml : t < (Txt.split z " ").length := (List.getElem?_eq_some_iff.mp part_at).1
  have pl := cut_short (List.mem_of_getElem? part_at)
  have dm : Tr.cutD (sts (Txt.split z " ")) (some (t : Int)) (some ((t : Int) + 1)) = [.str p] := by
    have e1 : ((sts (Txt.split z " ")).drop t).take 1 = [.str p] := by
      have g : (sts (Txt.split z " "))[t]? = some (.str p) := by rw [List.getElem?_map, part_at]; rfl
      rw [List.drop_eq_getElem_cons (by omega)]
      rw [List.getElem?_eq_getElem (by omega)] at g
      rw [Option.some.inj g]
      rfl
    rw [cut_mid (by omega), e1]
  refine pkd (ρ := st8 z n w (some (.dat (.str o))) (some (.own false (.list (sts (Txt.split z " "))))) none none) (k := fun ρ => sCons (sSet 7 Disp1) (sCons (sSet 7 Disp2) R3) ρ (Ok k) x) (i := 6) (c := none) rfl .no ?_
  have fin := r3_run (k := k) (x := x) (n := n) (w := w) (o := o) hl lz cz wm part_at hk
  have two : (List.replicate (2 : Int).toNat (Tr.cutD (sts (Txt.split z " ")) (some (t : Int)) (some ((t : Int) + 1)))).flatten = sts [p, p] := by rw [dm]; rfl
  refine ⟨sz (by simp), ⟨by decide, by decide, ?_⟩, ?_⟩
  · show (Tr.cutD (sts (Txt.split z " ")) (some (t : Int)) (some ((t : Int) + 1))).length * 2 ≤ sizeLine
    rw [dm]
    exact sz (l := [(), ()]) (by decide)
  refine ⟨sz (by simp), sz (by simp), .str p, e, (show p.length ≤ 100000 by omega), sz (by simp), .str p, e, (show p.length + 5 ≤ sizeLine by omega), sz (by simp), sz (by simp), ?_⟩
  have eA : [PyData.list [], .list (List.replicate (2 : Int).toNat (Tr.cutD (sts (Txt.split z " ")) (some (t : Int)) (some ((t : Int) + 1)))).flatten, .list [.str "x:count"], .list [.str "mine"], .list [.str (Txt.upper p)], .list [.str (p ++ ":mine")]] ++ [PyData.list [.str "counter:mine"], .list [.str ""], .list [.str "a:counter", .str "b:counter", .str "c:counter", .str "d:counter"]] = altD p := by
    rw [two]
    rfl
  refine pk (ρ := st8 z n w (some (.dat (.str o))) (some (.own false (.list (sts (Txt.split z " "))))) (some (.dat (.int (t : Int)))) none) (k := fun ρ => sCons (sSet 7 Disp2) R3 ρ (Ok k) x) (i := 7) (a := .own false (.list [PyData.list [], .list (List.replicate (2 : Int).toNat (Tr.cutD (sts (Txt.split z " ")) (some (t : Int)) (some ((t : Int) + 1)))).flatten, .list [.str "x:count"], .list [.str "mine"], .list [.str (Txt.upper p)], .list [.str (p ++ ":mine")]])) (c := none) rfl .no rfl (fun _ => nofun) ?_
  rw [← eA] at fin
  refine ⟨sz (by simp), sz (by simp), sz (by simp), sz (by simp), sz (l := [(), (), (), (), (), (), (), (), ()]) (by decide), ?_⟩
  exact Np.put (i := 7) (a := .own false (.list _)) (c := some (.own false (.list _))) (k := fun ρ => R3 ρ (Ok k) x) rfl nOwn rfl (fun _ => nofun) fin
theorem imp_bent10 : ∀ as k x, as.length = 2 → F_bent10 as k x → KR.fb_law_bent (start0 8 as) (Ok k) fun c _ => x c := by
  rintro _ k x _ ⟨z, m, rfl, hl, lz, cz, _, wm, hk⟩
  have big : 1000 ≤ sizeLine := by decide
  refine ⟨(show z.length ≤ sizeLine by omega), Nat.le_refl 1, rfl, _, rfl, (show 0 < (z.length : Int) + 1 by omega), (show (z.length : Int) + 1 < 1073741824 by omega), fun j j0 j1 => ⟨.inl rfl, ?_⟩⟩
  obtain ⟨n, rfl⟩ : ∃ n : Nat, j = n := ⟨j.toNat, by omega⟩
  refine ⟨Nat.le_refl 1, rfl, 5, rfl, by decide, by decide, fun w w0 w1 => ⟨.inl rfl, ?_⟩⟩
  refine ⟨Nat.le_refl 1, rfl, 9, rfl, by decide, by decide, fun q q0 q1 => ⟨.inl rfl, ?_⟩⟩
  obtain ⟨i, c, rfl, hc, e⟩ := atI_get (xs := ("az: ,AZ\n0" : Str).cps.toList) q0 (by show q < 9; exact q1)
  have lc : low ⟨#[c]⟩ := fun d hd => by
    rw [List.mem_singleton.mp (show d ∈ [c] from hd)]
    have all : ∀ c ∈ ("az: ,AZ\n0" : Str).cps.toList, c < 128 := by decide +kernel
    exact all c (List.mem_of_getElem? hc)
  have hk2 : ∀ y, Fine m z y → k (.dat (.str y)) := fun y f => hk y f.1 f.2.1 f.2.2.1 f.2.2.2
  refine ⟨by decide, c, e, ?_⟩
  have go : sCons (sIf (fTest (f2 gEq (fVar 3) (fC (.dat (.int (0)))))) R0 sNil) (sCons (sIf (fTest (f2 gEq (fVar 3) (fC (.dat (.int (1)))))) R1 sNil) WayW) (st8 z n w (some (.dat (.str ⟨#[c]⟩))) none none none) (Ok k) fun c _ => x c := by
    refine ⟨⟨sh_int _, sh_int _⟩, ifs (fun _ => r0_run hl lz rfl lc hk2) fun _ => ?_⟩
    refine ⟨⟨sh_int _, sh_int _⟩, ifs (fun _ => r1_run hl lz hk2) fun _ => ?_⟩
    exact way_run hl lz cz wm hk2
  exact go
end
end KR
set_option Elab.async false
set_option linter.all false
set_option maxRecDepth 100000
namespace KR
open PySem PySem.Spec PyProof.Rows L2 Evl Kc Kz Kx Tr Mg K23 K22 K27 K24 KA KB KI TL
open KP (fldT rowsT fldT_ok sum_le join_le tl_app low_of three_low sh_low F_text F_same)
open KQ (low_app joinL_all)
theorem fldT_low {r : Mg.Row} (h : word r.1 ∧ three r.2) : low (fldT r) :=
  low_app (low_app (fun c hc => (low_of h.1 c hc).2) (show ∀ c ∈ tl (":" : Str), c < 128 by decide +kernel)) fun c hc => ((three_low h.2).2 c hc).2
structure Line (z : Str) (ys : List Str) : Prop where
  l : z.length ≤ 272
  w : low z
  c : (tl z).count 32 ≤ 15
  s : Txt.split z " " = ys
  m : ∀ y ∈ ys, y.length ≤ 16
theorem line_of {ys : List Str} (ne : ys ≠ []) (l : ys.length ≤ 16) (h : ∀ y ∈ ys, y.length ≤ 16 ∧ 32 ∉ tl y ∧ low y) : Line (Txt.join " " ys) ys := by
  have one : tl " " = [32] := by decide +kernel
  refine ⟨?_, fun c hc => ?_, ?_, split_join (s := 32) (S := []) rfl (by decide +kernel) ne fun p hp => (h p hp).2.1, fun y hy => (h y hy).1⟩
  · have j : (Txt.join " " ys).length ≤ ys.length * (16 + 1) := join_le fun y hy => (h y hy).1
    omega
  · rw [join_eq, tl_join] at hc
    refine joinL_all (by decide +kernel) _ (fun p hp => ?_) c hc
    obtain ⟨y, hy, rfl⟩ := List.mem_map.mp hp
    exact (h y hy).2.2
  · rw [join_eq, tl_join, one]
    have j := joinL_cnt (s := 32) (ys.map tl) (fun e => ne (List.map_eq_nil_iff.mp e)) fun p hp => by
      obtain ⟨y, hy, rfl⟩ := List.mem_map.mp hp
      exact (h y hy).2.1
    rw [List.length_map] at j
    omega
theorem Line.tz {z : Str} {ys : List Str} (h : Line z ys) : Tz z := by
  obtain ⟨l, w, c, s, m⟩ := h
  exact ⟨by omega, w, by omega, fun p hp => by rw [s] at hp; have := m p hp; omega⟩
theorem line_rows {rows : List Mg.Row} (ne : rows ≠ []) (l : rows.length ≤ 16) (ok : ∀ r ∈ rows, word r.1 ∧ three r.2) : Line (rowsT rows) (rows.map fldT) :=
  line_of (fun e => ne (List.map_eq_nil_iff.mp e)) (by rw [List.length_map]; exact l) fun y hy => by
    obtain ⟨r, hr, rfl⟩ := List.mem_map.mp hy
    exact ⟨(fldT_ok (ok r hr)).1, (fldT_ok (ok r hr)).2.1, fldT_low (ok r hr)⟩
theorem fields_rows {rows : List Mg.Row} (ne : rows ≠ []) (l : rows.length ≤ 16) (ok : ∀ r ∈ rows, word r.1 ∧ three r.2) : fieldsZ (rowsT rows) = flD rows := by
  unfold fieldsZ
  rw [(line_rows ne l ok).s, List.map_map]
  congr 1
  refine List.map_congr_left fun r hr => ?_
  show PyData.tuple (sts (Txt.split (fldT r) ":")) = _
  rw [(fldT_ok (ok r hr)).2.2]
  rfl
theorem all_rows {rows : List Mg.Row} (l : rows.length ≤ 16) (ok : ∀ r ∈ rows, word r.1 ∧ three r.2) : ∀ d, d = flD rows ∨ d = .tuple (rows.map rowD) → AllOk d := fun d hd ds e => by
  have es : ds = rows.map rowD := by
    rcases hd with rfl | rfl <;> exact (Option.some.inj e).symm
  subst es
  refine ⟨by rw [List.length_map]; omega, fun d hd => ?_⟩
  obtain ⟨r, hr, rfl⟩ := List.mem_map.mp hd
  have f := fldT_ok (ok r hr)
  have p : partT (fldT r) = rowD r := by
    show PyData.tuple (sts (Txt.split (fldT r) ":")) = _
    rw [f.2.2]
    rfl
  rw [← p]
  exact part_ok (by omega)
/-- fields of a schema -/
structure Bs (rows : List Mg.Row) (a b : Nat) : Prop where
  ok : RowsOk rows a b
  a1 : 0 < a
  a12 : a ≤ 12
  b4 : b ≤ 4
section
variable {rows : List Mg.Row} {a b : Nat}
theorem Bs.ht (B : Bs rows a b) : ∀ r ∈ rows, word r.1 ∧ three r.2 := fun r hr => ⟨B.ok.nm r hr, B.ok.kd r hr⟩
theorem Bs.l16 (B : Bs rows a b) : rows.length ≤ 16 := by
  have := B.ok.len; have := B.a12; have := B.b4; omega
theorem Bs.ne (B : Bs rows a b) : rows ≠ [] := fun e => by
  have l := B.ok.len
  have := B.a1
  rw [e] at l
  exact absurd l (by show 0 ≠ a + b; omega)
theorem Bs.line (B : Bs rows a b) : Line (rowsT rows) (rows.map fldT) := line_rows B.ne B.l16 B.ht
theorem Bs.judge (B : Bs rows a b) : KI.judge (flD rows) = .inr rows := (judge_rows B.ne B.ht).1 ⟨B.ok.nd, Nat.le_trans (Nat.le_of_eq B.ok.cs) B.b4, Nat.le_trans (Nat.le_of_eq B.ok.ls) B.a12⟩
theorem Bs.judge2 (B : Bs rows a b) : KI.judge (.tuple (rows.map rowD)) = .inr rows := B.judge
theorem Bs.judgeZ (B : Bs rows a b) : KI.judge (fieldsZ (rowsT rows)) = .inr rows := by
  rw [fields_rows B.ne B.l16 B.ht]
  exact B.judge
end
theorem nez {d : D} {k : Out → Prop} (h : SeqAt.shaped d = true) (hk : k (.val (.bool false))) : gNeZ d d k := by
  refine .inl (.inl (.inl ⟨⟨h, h⟩, ?_⟩))
  rw [show eqD d d = true from SeqAt.eqv_refl d (SeqAt.canLay_of_shaped h)]
  exact hk
theorem same_text {a : Str} {P Q : Prop} (h : Q) : if (true ^^ decide (a = a)) = true then P else Q := by
  rw [decide_eq_true rfl]
  exact h
theorem nSch {C : Addr} {fs : List (Str × D)} : Np (some (.obj C fs)) := fun b hb => by cases hb; rfl
theorem cl_sch {C : Addr} {fs : List (Str × D)} : Cl (some (.obj C fs)) := fun b hb => by cases hb; rfl
abbrev st (ns : List Int) (c1 c2 c3 c4 c5 c6 c7 c8 c9 c10 c11 : Option AV) : S := [some (.scr ns), c1, c2, c3, c4, c5, c6, c7, c8, c9, c10, c11, none]
section
variable {C DS DT : Addr} {ns : List Int} {rows : List Mg.Row} {a b : Nat} {c1 c2 c3 c4 c5 c6 c7 c8 c9 c10 c11 : Option AV} {R : FS} {N : EndsT} {x : KX}
abbrev T1 : FS := (sSet 2 (fCall 2 F_pot (fCons (fVar 0) (fCons (fVar 1) fNil))))
theorem t1_run {m : Nat} (k2 : Np c2) (hm : m < 100) (h : R (st ns (some (.dat (.int m))) (some (.pot false)) c3 c4 c5 c6 c7 c8 c9 c10 c11) N x) :
    sCons T1 R (st ns (some (.dat (.int m))) c2 c3 c4 c5 c6 c7 c8 c9 c10 c11) N x :=
  ⟨Nat.zero_le 1, rfl, ns, m, rfl, hm, .inl rfl, Np.put (a := .pot false) rfl k2 rfl (fun _ => nofun) h⟩
abbrev T2 : FS := (sSet 3 (fCall 3 F_fields (fCons (fVar 2) (fCons (f2 gAdd (fC (.dat (.int (1)))) (fCall 2 F_draw (fCons (fVar 2) (fCons (fC (.dat (.int (12)))) fNil)))) (fCons (fCall 2 F_draw (fCons (fVar 2) (fCons (fC (.dat (.int (5)))) fNil))) fNil)))))
abbrev T3 (C DS : Addr) : FS := (sPar 4 5 (fCons (fMkX C "rows" 1 (F_initX DS) (fCons (fFrz 3) fNil)) (fCons (fCall 1 F_noteOf (fCons (fFrz 3) fNil)) fNil)))
theorem t2_run (k3 : Np c3) (h : ∀ rows a b, Bs rows a b → R (st ns c1 (some (.pot false)) (some (.own false (flD rows))) c4 c5 c6 c7 c8 c9 c10 c11) N x) :
    sCons T2 R (st ns c1 (some (.pot false)) c3 c4 c5 c6 c7 c8 c9 c10 c11) N x := by
  refine ⟨Nat.le_refl 1, rfl, 12, rfl, by decide, by decide, fun i i0 i1 => ⟨.inl rfl, ?_⟩⟩
  refine ⟨Nat.le_refl 1, rfl, 5, rfl, by decide, by decide, fun j j0 j1 => ⟨.inl rfl, ?_⟩⟩
  obtain ⟨n, rfl⟩ : ∃ n : Nat, i = n := ⟨i.toNat, by omega⟩
  obtain ⟨m, rfl⟩ : ∃ m : Nat, j = m := ⟨j.toNat, by omega⟩
  refine ⟨Nat.le_refl 1, rfl, 1 + n, m, rfl, by omega, fun rows ok => ⟨.inl rfl, ?_⟩⟩
  exact Np.put (a := .own false (flD rows)) rfl k3 rfl (fun _ => nofun) (h rows (1 + n) m ⟨ok, by omega, by omega, by omega⟩)
theorem t3_run (B : Bs rows a b) (k4 : Np c4) (k5 : Np c5) (h : R (st ns c1 c2 (some (.dat (flD rows))) (some (schO C rows)) (some (.dat (.str (rowsT rows)))) c6 c7 c8 c9 c10 c11) N x) :
    sCons (T3 C DS) R (st ns c1 c2 (some (.own false (flD rows))) c4 c5 c6 c7 c8 c9 c10 c11) N x := by
  have j := B.judge
  have l := B.l16
  refine ⟨rfl, rfl, rfl, flD rows, rfl, all_rows l B.ht _ (.inl rfl), fun p i e => ?_, fun rs e => ?_⟩
  · rw [j] at e
    cases e
  · rw [j] at e
    cases e
    refine ⟨Nat.zero_le 1, rfl, rows, rfl, by omega, B.ht, .inl rfl, ?_⟩
    have fin : Tr.putK 4 (schO C rows) (st ns c1 c2 (some (.dat (flD rows))) c4 c5 c6 c7 c8 c9 c10 c11) fun ρ2 => Tr.putK 5 (.dat (.str (rowsT rows))) ρ2 fun ρ' => R ρ' N x :=
      Np.put rfl k4 rfl (fun _ => nofun) (Np.put rfl k5 rfl (fun _ => nofun) h)
    exact fin
abbrev T4 (C DT : Addr) : FS := (sIf (fOr (fTest (f2 gNeZ (fM0 C (F_text C) (fVar 4)) (fVar 5))) (fNot (fTest (fEqO C (F_same C) (fCM C (F_readS C DT) (fCons (fVar 5) fNil)) (fVar 4))))) (sRet (fC (.dat (.bool false)))) sNil)
theorem t4_run (B : Bs rows a b) (h : R (st ns c1 c2 c3 (some (schO C rows)) (some (.dat (.str (rowsT rows)))) c6 c7 c8 c9 c10 c11) N x) :
    sCons (T4 C DT) R (st ns c1 c2 c3 (some (schO C rows)) (some (.dat (.str (rowsT rows)))) c6 c7 c8 c9 c10 c11) N x := by
  have j := B.judgeZ
  have l := B.l16
  refine ⟨rfl, rows, rfl, by omega, B.ht, nez (sh_low B.line.w) ?_⟩
  refine ⟨Nat.zero_le 1, rfl, .inl ⟨.str (rowsT rows), rfl, .inl ⟨rowsT rows, rfl, B.line.tz, fun rs e => ?_, fun ⟨p, i, e⟩ => ?_⟩⟩⟩
  · rw [j] at e
    cases e
    exact ⟨.inl rfl, rfl, rfl, Nat.zero_le 1, rfl, rows, rfl, B.ht, .inl rfl, true, rfl, h⟩
  · rw [j] at e
    cases e
end
end KR
set_option Elab.async false
set_option linter.all false
set_option maxRecDepth 100000
namespace KR
open PySem PySem.Spec PyProof.Rows L2 Evl Kc Kz Kx Tr Mg K23 K22 K27 K24 KA KB KI TL
open KP (fldT rowsT fldT_ok sum_le sh_low F_text)
theorem sm_word {z : Str} (h : word z) : Sm (.str z) := sm_str (Nat.le_trans (word_parts h).2.1 (by decide)) (word_lay h)
theorem sm_three {k : Str} (h : three k) : Sm (.str k) := by
  rcases h with rfl | rfl | rfl <;> exact sm_str (by decide) (by decide +kernel)
theorem lay_rows {rows : List Mg.Row} (l : rows.length ≤ 100) (ok : ∀ r ∈ rows, word r.1 ∧ three r.2) : Lay2 (flD rows) := lay2_list (by rw [List.length_map]; omega) fun d hd => by
  obtain ⟨r, hr, rfl⟩ := List.mem_map.mp hd
  refine el2_tup (us := [.str r.1, .str r.2]) (by show 2 ≤ 12; decide) fun e he => ?_
  obtain here | there := List.mem_cons.mp he
  · rw [here]
    exact sm_word (ok r hr).1
  · rw [List.mem_singleton.mp there]
    exact sm_three (ok r hr).2
theorem met_show {z : Str} (hz : Tz z) : ShowX (metS (.str z)) := by
  cases j : judge (fieldsZ z) with
  | inl p =>
    have m : metS (.str z) = .list [.str "line", .int 1] := by
      show (match judge (fieldsZ z) with | .inr rows => _ | .inl _ => _) = _
      rw [j]
    rw [m]
    exact show_two (lay2_sm (sm_str (by decide) (by decide +kernel))) (lay2_sm (sm_int 1 (by decide)))
  | inr rs =>
    have m : metS (.str z) = .list [.str "read", flD rs] := by
      show (match judge (fieldsZ z) with | .inr rows => _ | .inl _ => _) = _
      rw [j]
    obtain ⟨e, ok⟩ := rows_read j
    have l := congrArg List.length e
    rw [List.length_map, List.length_map] at l
    have := words_many hz
    rw [m]
    exact show_two (lay2_sm (sm_str (by decide) (by decide +kernel))) (lay_rows (by omega) ok)
section
variable {C DS DT : Addr} {ns : List Int} {rows : List Mg.Row} {a b : Nat} {z : Str} {c1 c2 c3 c4 c5 c6 c7 c8 c9 c10 c11 : Option AV} {R : FS} {N : EndsT} {x : KX}
abbrev U1 : FS := (sSet 7 (fCall 2 F_bent10 (fCons (fVar 2) (fCons (fVar 5) fNil))))
abbrev U2 : FS := (sIf (fTest (f2 gEq (fCall 2 F_draw (fCons (fVar 2) (fCons (fC (.dat (.int (3)))) fNil))) (fC (.dat (.int (0)))))) (sSet 7 (fCall 2 F_bent10 (fCons (fVar 2) (fCons (fVar 7) fNil)))) sNil)
theorem u12_run (B : Bs rows a b) (k7 : Np c7) (h : ∀ z, Tz z → R (st ns c1 (some (.pot false)) c3 c4 (some (.dat (.str (rowsT rows)))) c6 (some (.dat (.str z))) c8 c9 c10 c11) N x) :
    sCons U1 (sCons U2 R) (st ns c1 (some (.pot false)) c3 c4 (some (.dat (.str (rowsT rows)))) c6 c7 c8 c9 c10 c11) N x := by
  obtain ⟨l, w, c, s, m⟩ := B.line
  refine ⟨Nat.le_refl 1, rfl, rowsT rows, 16, rfl, by omega, w, by omega, by decide, fun p hp => by rw [s] at hp; exact m p hp, fun y yl yw yc yp => ⟨.inl rfl, ?_⟩⟩
  refine Np.put (a := .dat (.str y)) rfl k7 rfl (fun _ => nofun) ?_
  refine ⟨Nat.le_refl 1, rfl, 3, rfl, by decide, by decide, fun q q0 q1 => ⟨.inl rfl, ⟨sh_int _, sh_int _⟩, ifI (fun _ => ?_) fun _ => ?_⟩⟩
  · refine ⟨Nat.le_refl 1, rfl, y, 286, rfl, by omega, yw, by omega, by decide, fun p hp => by have := yp p hp; omega, fun v vl vw vc vp => ⟨.inl rfl, ?_⟩⟩
    exact Np.put (a := .dat (.str v)) (c := some (.dat (.str y))) rfl nDat rfl (fun _ => nofun) (h v ⟨by omega, vw, by omega, fun p hp => by have := vp p hp; omega⟩)
  · exact h y ⟨by omega, yw, by omega, fun p hp => by have := yp p hp; omega⟩
abbrev U3 : FS := (sSet 8 (fCall 1 F_rowsIn (fCons (fVar 7) fNil)))
abbrev U4 (C : Addr) : FS := (sIf (fTest (f2 (gEqT true) (fB (g1 gReprX) (fCons (fCall 1 (F_met10 C) (fCons (fVar 7) fNil)) fNil)) (fB (g1 gReprX) (fCons (fIf (fTest (f2 (gIsN false) (fVar 8) (fC (.dat (.none))))) (fDisp .newl (fCons (fC (.dat (.str "line"))) (fCons (fC (.dat (.int (1)))) fNil))) (fDisp .newl (fCons (fC (.dat (.str "read"))) (fCons (fFrz 8) fNil)))) fNil)))) (sRet (fC (.dat (.bool false)))) sNil)
theorem u34_run (hz : Tz z) (k8 : Np c8) (h : ∀ c8, Np c8 → N.nx (st ns c1 c2 c3 c4 c5 c6 (some (.dat (.str z))) c8 c9 c10 c11)) :
    sCons U3 (U4 C) (st ns c1 c2 c3 c4 c5 c6 (some (.dat (.str z))) c8 c9 c10 c11) N x := by
  have sx := met_show hz
  refine ⟨Nat.zero_le 1, rfl, z, rfl, hz, fun rs j => ⟨.inl rfl, ?_⟩, fun ⟨p, i, j⟩ => ⟨.inl rfl, ?_⟩⟩
  · have m : metS (.str z) = .list [.str "read", flD rs] := by
      show (match judge (fieldsZ z) with | .inr rows => _ | .inl _ => _) = _
      rw [j]
    rw [m] at sx
    refine Np.put (a := .dat (flD rs)) rfl k8 rfl (fun _ => nofun) ?_
    refine ⟨Nat.zero_le 1, rfl, .inl ⟨.str z, rfl, fun y q => by cases q; exact hz, fun es e => ⟨.inl rfl, ?_⟩⟩⟩
    rw [m] at e
    cases e
    exact ⟨sx, sz (by simp), sx, same_text (h (some (.dat (flD rs))) nDat)⟩
  · have m : metS (.str z) = .list [.str "line", .int 1] := by
      show (match judge (fieldsZ z) with | .inr rows => _ | .inl _ => _) = _
      rw [j]
    rw [m] at sx
    refine Np.put (a := .dat .none) rfl k8 rfl (fun _ => nofun) ?_
    refine ⟨Nat.zero_le 1, rfl, .inl ⟨.str z, rfl, fun y q => by cases q; exact hz, fun es e => ⟨.inl rfl, ?_⟩⟩⟩
    rw [m] at e
    cases e
    exact ⟨sx, sz (by simp), sx, same_text (h (some (.dat .none)) nDat)⟩
abbrev TurnF (C : Addr) : FS := sCons U1 (sCons U2 (sCons U3 (U4 C)))
abbrev T5 (C : Addr) : FS := sFor (iR1 (fCons (fC (.dat (.int (6)))) fNil)) (gN 6) (TurnF C)
theorem t5_run (B : Bs rows a b) (k6 : Cl c6) (k7 : Np c7) (k8 : Np c8) (h : ∀ c6 c7 c8, Cl c6 → Np c7 → Np c8 → R (st ns c1 (some (.pot false)) c3 c4 (some (.dat (.str (rowsT rows)))) c6 c7 c8 c9 c10 c11) N x) :
    sCons (T5 C) R (st ns c1 (some (.pot false)) c3 c4 (some (.dat (.str (rowsT rows)))) c6 c7 c8 c9 c10 c11) N x := by
  refine ⟨⟨by decide, by decide⟩, ?_⟩
  refine forF_by (fun _ ρ => ∃ c6 c7 c8 : Option AV, ρ = st ns c1 (some (.pot false)) c3 c4 (some (.dat (.str (rowsT rows)))) c6 c7 c8 c9 c10 c11 ∧ Cl c6 ∧ Np c7 ∧ Np c8) (fun i d ρ hd hI C' hC => ?_) (fun ρ hI => ?_) ⟨c6, c7, c8, rfl, k6, k7, k8⟩
  · obtain ⟨c6, c7, c8, rfl, k6, k7, k8⟩ := hI
    refine pd rfl k6 ?_
    exact u12_run (c6 := some (.dat d)) B k7 fun z hz => u34_run hz k8 fun c8 k8 => hC _ ⟨_, _, _, rfl, .dat, nDat, k8⟩
  · obtain ⟨c6, c7, c8, rfl, k6, k7, k8⟩ := hI
    exact h _ _ _ k6 k7 k8
abbrev T6 : FS := (sSet 9 (fCall 2 F_words25 (fCons (fVar 2) (fCons (fC (.dat (.int (13)))) fNil))))
theorem t6_run (k9 : Np c9) (h : ∀ ws : List Str, ws.length = 13 → ws.Nodup → (∀ w ∈ ws, word w) → R (st ns c1 (some (.pot false)) c3 c4 c5 c6 c7 c8 (some (.own false (.list (sts ws)))) c10 c11) N x) :
    sCons T6 R (st ns c1 (some (.pot false)) c3 c4 c5 c6 c7 c8 c9 c10 c11) N x :=
  ⟨Nat.le_refl 1, rfl, 13, rfl, by decide, fun ws l nd wd => ⟨.inl rfl, Np.put (a := .own false (.list (sts ws))) rfl k9 rfl (fun _ => nofun) (h ws l nd wd)⟩⟩
/-- thirteen label fields -/
structure Mk (ws : List Str) (rs : List Mg.Row) : Prop where
  n : rs.map (·.1) = ws
  l : ws.length = 13
  nd : ws.Nodup
  w : ∀ y ∈ ws, word y
  k : ∀ r ∈ rs, r.2 = "mine" ∨ r.2 = "theirs"
section
variable {ws : List Str} {rs : List Mg.Row}
theorem Mk.len (M : Mk ws rs) : rs.length = 13 := by rw [← List.length_map (f := (·.1)), M.n, M.l]
theorem Mk.ok (M : Mk ws rs) : ∀ r ∈ rs, word r.1 ∧ three r.2 := fun r hr => ⟨M.w _ (M.n ▸ List.mem_map.mpr ⟨r, hr, rfl⟩), (M.k r hr).elim .inl fun h => .inr (.inl h)⟩
theorem no_c {k : Str} (h : k = "mine" ∨ k = "theirs") : isC k = false := by
  rcases h with rfl | rfl <;> decide +kernel
theorem cnt_rows : ∀ {rs : List Mg.Row}, (∀ r ∈ rs, r.2 = "mine" ∨ r.2 = "theirs") → nC rs = 0 ∧ nL rs = rs.length
  | [], _ => ⟨rfl, rfl⟩
  | r :: rs, h => by
    obtain ⟨i1, i2⟩ := cnt_rows fun q hq => h q (List.mem_cons_of_mem _ hq)
    have f := no_c (h r List.mem_cons_self)
    unfold nC nL at *
    rw [List.filter_cons, List.filter_cons, f]
    exact ⟨i1, congrArg (· + 1) i2⟩
theorem Mk.line (M : Mk ws rs) : Line (rowsT rs) (rs.map fldT) := line_rows (fun e => by have := M.len; rw [e] at this; cases this) (by rw [M.len]; decide) M.ok
theorem Mk.bad (M : Mk ws rs) : ∃ p i, judge (fieldsZ (rowsT rs)) = .inl (p, i) := by
  have ne : rs ≠ [] := fun e => by have := M.len; rw [e] at this; cases this
  rw [fields_rows ne (by rw [M.len]; decide) M.ok]
  refine (judge_rows ne M.ok).2 fun g => ?_
  have l := g.l
  rw [(cnt_rows M.k).2, M.len] at l
  exact absurd l (by decide)
theorem Mk.line12 (M : Mk ws rs) : Line (rowsT (rs.take 12)) ((rs.take 12).map fldT) ∧ judge (fieldsZ (rowsT (rs.take 12))) = .inr (rs.take 12) := by
  have l12 : (rs.take 12).length = 12 := by rw [List.length_take, M.len]; rfl
  have ne : rs.take 12 ≠ [] := fun e => by rw [e] at l12; cases l12
  have ok : ∀ r ∈ rs.take 12, word r.1 ∧ three r.2 := fun r hr => M.ok r (List.mem_of_mem_take hr)
  refine ⟨line_rows ne (by omega) ok, ?_⟩
  rw [fields_rows ne (by omega) ok]
  obtain ⟨cc, cl⟩ := cnt_rows fun r hr => M.k r (List.mem_of_mem_take (l := rs) (i := 12) hr)
  refine (judge_rows ne ok).1 ⟨?_, by omega, by omega⟩
  rw [List.map_take, M.n]
  exact M.nd.sublist (List.take_sublist _ _)
end
abbrev MarkF : FE := (f2 gAdd (f2 gAdd (fVar 12) (fC (.dat (.str ":")))) (f2 gIx (fDisp .newl (fCons (fC (.dat (.str "mine"))) (fCons (fC (.dat (.str "theirs"))) fNil))) (fCall 2 F_draw (fCons (fVar 2) (fCons (fC (.dat (.int (2)))) fNil)))))
abbrev T7 : FS := (sSet 10 (fLc [12] (iSeq lK (fFrz 9)) (gN 12) fYes MarkF))
theorem t7_run {ws : List Str} (l : ws.length = 13) (nd : ws.Nodup) (wd : ∀ w ∈ ws, word w) (k10 : Np c10) (h : ∀ rs, Mk ws rs → R (st ns c1 (some (.pot false)) c3 c4 c5 c6 c7 c8 (some (.dat (.list (sts ws)))) (some (.own false (.list (sts (rs.map fldT))))) c11) N x) :
    sCons T7 R (st ns c1 (some (.pot false)) c3 c4 c5 c6 c7 c8 (some (.own false (.list (sts ws)))) c10 c11) N x := by
  have big : 1000 ≤ sizeLine := by decide
  refine ⟨rfl, ?_⟩
  refine lcF_by (fun i acc ρ => ρ = st ns c1 (some (.pot false)) c3 c4 c5 c6 c7 c8 (some (.dat (.list (sts ws)))) c10 c11 ∧ ∃ rs : List Mg.Row, rs.map (·.1) = ws.take i ∧ (∀ r ∈ rs, r.2 = "mine" ∨ r.2 = "theirs") ∧ acc = sts (rs.map fldT)) (fun i d acc ρ hd hI C' hC => ?_) (fun acc ρ hI => ?_) ⟨rfl, [], rfl, nofun, rfl⟩
  · obtain ⟨rfl, rs, e, k, rfl⟩ := hI
    rw [List.getElem?_map] at hd
    obtain ⟨w, hw, rfl⟩ := Option.map_eq_some_iff.mp hd
    have l1 := (word_parts (wd w (List.mem_of_getElem? hw))).2.1
    have rl : rs.length ≤ 13 := by
      have := congrArg List.length e
      rw [List.length_map, List.length_take] at this
      omega
    refine pkd rfl .no ?_
    refine ⟨(show w.length + 1 ≤ sizeLine by omega), sz (by simp), Nat.le_refl 1, rfl, 2, rfl, by decide, by decide, fun j j0 j1 => ⟨.inl rfl, ?_⟩⟩
    obtain ⟨kd, hk, ek⟩ : ∃ kd : Str, (kd = "mine" ∨ kd = "theirs") ∧ atI [PyData.str "mine", .str "theirs"] j = some (.str kd) := by
      obtain rfl | rfl := (show j = 0 ∨ j = 1 by omega)
      · exact ⟨_, .inl rfl, rfl⟩
      · exact ⟨_, .inr rfl, rfl⟩
    have kl : kd.length ≤ 7 := by rcases hk with rfl | rfl <;> decide
    refine ⟨.str kd, ek, (show (w ++ ":").length + kd.length ≤ sizeLine by rw [app_len]; show w.length + 1 + _ ≤ _; omega), ?_, hC _ _ ⟨rfl, rs ++ [(w, kd)], ?_, fun r hr => ?_, ?_⟩⟩
    · rw [List.length_map, List.length_map]
      exact small1000 (by omega)
    · rw [take_succ hw, List.map_append, e]
      rfl
    · rcases List.mem_append.mp hr with h1 | h1
      · exact k r h1
      · rw [List.mem_singleton.mp h1]
        exact hk
    · rw [List.map_append, sts_app]
      rfl
  · obtain ⟨rfl, rs, e, k, rfl⟩ := hI
    rw [List.length_map, List.take_length] at e
    exact Np.put (a := .own false (.list (sts (rs.map fldT)))) rfl k10 rfl (fun _ => nofun) (h rs ⟨e, l, nd, wd, k⟩)
abbrev T8 (C DT : Addr) : FS := (sIf (fOr (fTest (f2 gNeZ (fM0 C (F_names C) (fCM C (F_readS C DT) (fCons (fMeth gJoin (fC (.dat (.str " "))) (fCons (fSl (fVar 10) oNone (oSome (fC (.dat (.int (12)))))) fNil)) fNil))) (fSl (fVar 9) oNone (oSome (fC (.dat (.int (12)))))))) (fTest (f2 gNeZ (fCall 1 (F_met10 C) (fCons (fMeth gJoin (fC (.dat (.str " "))) (fCons (fVar 10) fNil)) fNil)) (fDisp .newl (fCons (fC (.dat (.str "line"))) (fCons (fC (.dat (.int (1)))) fNil)))))) (sRet (fC (.dat (.bool false)))) sNil)
theorem fits {ys : List Str} (l : ys.length ≤ 16) (m : ∀ y ∈ ys, y.length ≤ 16) : (ys.map (·.length)).sum + ys.length * 1 ≤ sizeLine := by
  have := sum_le m
  have big : 1000 ≤ sizeLine := by decide
  omega
theorem t8_run {ws : List Str} {rs : List Mg.Row} (M : Mk ws rs) (h : R (st ns c1 c2 c3 c4 c5 c6 c7 c8 (some (.dat (.list (sts ws)))) (some (.own false (.list (sts (rs.map fldT))))) c11) N x) :
    sCons (T8 C DT) R (st ns c1 c2 c3 c4 c5 c6 c7 c8 (some (.dat (.list (sts ws)))) (some (.own false (.list (sts (rs.map fldT))))) c11) N x := by
  obtain ⟨ln, j12⟩ := M.line12
  have l13 := M.len
  have e1 : Tr.cutD (sts (rs.map fldT)) none (some (12 : Int)) = sts ((rs.take 12).map fldT) := (cut_to (n := 12) (by rw [List.length_map, List.length_map]; omega)).trans (by rw [← List.map_take, ← List.map_take])
  have e2 : Tr.cutD (sts ws) none (some (12 : Int)) = sts (ws.take 12) := (cut_to (n := 12) (by rw [List.length_map]; have := M.l; omega)).trans List.map_take.symm
  have second : gNeZ (.list [.str "line", .int 1]) (.list [.str "line", .int 1]) (fun o => ∀ b, o = .val (.bool b) → b = false) := nez (by decide +kernel) fun b e => by cases e; rfl
  have fin : sIf (fTest (f2 gNeZ (fCall 1 (F_met10 C) (fCons (fMeth gJoin (fC (.dat (.str " "))) (fCons (fVar 10) fNil)) fNil)) (fDisp .newl (fCons (fC (.dat (.str "line"))) (fCons (fC (.dat (.int (1)))) fNil))))) (sRet (fC (.dat (.bool false)))) sNil (st ns c1 c2 c3 c4 c5 c6 c7 c8 (some (.dat (.list (sts ws)))) (some (.own false (.list (sts (rs.map fldT))))) c11) { N with nx := fun ρ => R ρ N x } x := by
    refine ⟨⟨_, rfl⟩, ?_⟩
    show strsK (sts (rs.map fldT)) _
    refine strs_of ⟨fits (by rw [List.length_map]; omega) M.line.m, ?_⟩
    refine ⟨Nat.zero_le 1, rfl, .inl ⟨.str (rowsT rs), rfl, fun y q => by cases q; exact M.line.tz, fun es e => ⟨.inl rfl, ?_⟩⟩⟩
    have m : metS (.str (rowsT rs)) = .list [.str "line", .int 1] := by
      obtain ⟨p, i, j⟩ := M.bad
      show (match judge (fieldsZ (rowsT rs)) with | .inr rows => _ | .inl _ => _) = _
      rw [j]
    rw [m] at e
    cases e
    exact ⟨sz (by simp), nez (by decide +kernel) h⟩
  refine ⟨⟨_, rfl⟩, ?_⟩
  show strsK (Tr.cutD (sts (rs.map fldT)) none (some (12 : Int))) _
  rw [e1]
  refine strs_of ⟨fits (by rw [List.length_map, List.length_take]; omega) ln.m, ?_⟩
  refine ⟨Nat.zero_le 1, rfl, .inl ⟨.str (rowsT (rs.take 12)), rfl, .inl ⟨rowsT (rs.take 12), rfl, ln.tz, fun ps e => ?_, fun ⟨p, i, e⟩ => ?_⟩⟩⟩
  · rw [j12] at e
    cases e
    refine ⟨.inl rfl, rfl, rs.take 12, rfl, by rw [List.length_take]; omega, ?_⟩
    have en : (rs.take 12).map (·.1) = ws.take 12 := by rw [List.map_take, M.n]
    have go : ∀ {k : Out → Prop}, k (.val (.bool false)) → gNeZ (.list (sts ((rs.take 12).map (·.1)))) (.list (Tr.cutD (sts ws) none (some (12 : Int)))) k := fun hk => by
      rw [e2, en]
      exact nez (sh_sts fun y hy => M.w y (List.mem_of_mem_take hy)) hk
    exact go fin
  · rw [j12] at e
    cases e
abbrev V1 (C : Addr) : FS := (sIf (fTest (f2 gNeZ (fCall 1 (F_met10 C) (fCons (fVar 11) fNil)) (fDisp .newl (fCons (fC (.dat (.str "line"))) (fCons (fC (.dat (.int (0)))) fNil))))) (sRet (fC (.dat (.bool false)))) sNil)
abbrev T9 (C : Addr) : FS := (sForA 11 (fCons (fC (.dat (.none))) (fCons (fC (.dat (.int (0)))) (fCons (fC (.dat (.bool true))) (fCons (fDisp .newl (fCons (fFrz 5) fNil)) (fCons (fDisp .newt (fCons (fFrz 5) fNil)) (fCons (fD0) (fCons (fFrz 3) (fCons (fFrz 4) fNil)))))))) (V1 C))
def Goo (C : Addr) (rows : List Mg.Row) (u : AV) : Prop := (∃ d, u = .dat d ∧ isStr d = false) ∨ u = schO C rows
theorem met_no {d : D} (h : isStr d = false) : metS d = .list [.str "line", .int 0] := by
  cases d <;> first | rfl | cases h
theorem v1_run {u : AV} (hu : Goo C rows u) (h : N.nx (st ns c1 c2 c3 c4 c5 c6 c7 c8 c9 c10 (some u))) : V1 C (st ns c1 c2 c3 c4 c5 c6 c7 c8 c9 c10 (some u)) N x := by
  rcases hu with ⟨d, rfl, hs⟩ | rfl
  · refine ⟨Nat.zero_le 1, rfl, .inl ⟨d, rfl, fun y q => (by subst q; cases hs), fun es m => ⟨.inl rfl, ?_⟩⟩⟩
    rw [met_no hs] at m
    cases m
    exact ⟨sz (by simp), nez (by decide +kernel) h⟩
  · exact ⟨Nat.zero_le 1, rfl, .inr ⟨rows, rfl, .inl rfl, sz (by simp), nez (by decide +kernel) h⟩⟩
theorem goo_cl {u : AV} (hu : Goo C rows u) : Cl (some u) ∧ u.isPar = false ∧ ∀ j, u ≠ .at j := by
  rcases hu with ⟨d, rfl, hs⟩ | rfl
  · exact ⟨.dat, rfl, fun _ => nofun⟩
  · exact ⟨cl_sch, rfl, fun _ => nofun⟩
theorem each_run : ∀ {us : List AV} {c11 : Option AV}, (∀ u ∈ us, Goo C rows u) → Cl c11 → (∀ c11, Cl c11 → N.nx (st ns c1 c2 c3 c4 c5 c6 c7 c8 c9 c10 c11)) → forA 11 (V1 C) us (st ns c1 c2 c3 c4 c5 c6 c7 c8 c9 c10 c11) N x
  | [], c11, _, k, h => h c11 k
  | u :: us, c11, g, k, h => by
    have hu := g u List.mem_cons_self
    obtain ⟨k1, p1, a1⟩ := goo_cl hu
    refine pk (ρ := st ns c1 c2 c3 c4 c5 c6 c7 c8 c9 c10 c11) (i := 11) (a := u) (c := c11) rfl k p1 a1 ?_
    exact v1_run hu (each_run (fun v hv => g v (List.mem_cons_of_mem _ hv)) k1 h)
theorem t9_run (k11 : Cl c11) (h : ∀ c11, Cl c11 → R (st ns c1 c2 (some (.dat (flD rows))) (some (schO C rows)) (some (.dat (.str z))) c6 c7 c8 c9 c10 c11) N x) :
    sCons (T9 C) R (st ns c1 c2 (some (.dat (flD rows))) (some (schO C rows)) (some (.dat (.str z))) c6 c7 c8 c9 c10 c11) N x := by
  refine ⟨sz (by simp), sz (by simp), sz (by simp), rfl, ?_⟩
  refine each_run (rows := rows) (N := { N with nx := fun ρ => R ρ N x }) (fun u hu => ?_) k11 h
  simp only [List.mem_cons, List.not_mem_nil, or_false] at hu
  rcases hu with rfl | rfl | rfl | rfl | rfl | rfl | rfl | rfl
  · exact .inl ⟨_, rfl, rfl⟩
  · exact .inl ⟨_, rfl, rfl⟩
  · exact .inl ⟨_, rfl, rfl⟩
  · exact .inl ⟨_, rfl, rfl⟩
  · exact .inl ⟨_, rfl, rfl⟩
  · exact .inl ⟨_, rfl, rfl⟩
  · exact .inl ⟨_, rfl, rfl⟩
  · exact .inr rfl
abbrev T10 (C DS : Addr) : FS := (sIf (fOr (fTest (f2 gNeZ (fM0 C (F_text C) (fVar 4)) (fVar 5))) (fTest (f2 gNeZ (fM0 C (F_text C) (fMkX C "rows" 1 (F_initX DS) (fCons (fB (g1 gTuple) (fCons (fFrz 3) fNil)) fNil))) (fVar 5)))) (sRet (fC (.dat (.bool false)))) sNil)
theorem t10_run (B : Bs rows a b) (h : N.nx (st ns c1 c2 (some (.dat (flD rows))) (some (schO C rows)) (some (.dat (.str (rowsT rows)))) c6 c7 c8 c9 c10 c11)) :
    T10 C DS (st ns c1 c2 (some (.dat (flD rows))) (some (schO C rows)) (some (.dat (.str (rowsT rows)))) c6 c7 c8 c9 c10 c11) N x := by
  have l := B.l16
  have j := B.judge2
  refine ⟨rfl, rows, rfl, by omega, B.ht, nez (sh_low B.line.w) ?_⟩
  refine ⟨rfl, rfl, rfl, .tuple (rows.map rowD), rfl, all_rows l B.ht _ (.inr rfl), fun p i e => ?_, fun rs e => ?_⟩
  · rw [j] at e
    cases e
  · rw [j] at e
    cases e
    exact ⟨rfl, rows, rfl, by omega, B.ht, nez (sh_low B.line.w) h⟩
abbrev OuterF (C DS DT : Addr) : FS := sCons T1 (sCons T2 (sCons (T3 C DS) (sCons (T4 C DT) (sCons (T5 C) (sCons T6 (sCons T7 (sCons (T8 C DT) (sCons (T9 C) (T10 C DS)))))))))
theorem nPot : Np (some (.pot false)) := fun b hb => by cases hb; rfl
theorem outer_run {n : Nat} (hn : n ≤ 6) (h : ∀ c1 c2 c3 c4 c5 c6 c7 c8 c9 c10 c11, N.nx (st ns c1 c2 c3 c4 c5 c6 c7 c8 c9 c10 c11)) :
    forF (gN 1) (OuterF C DS DT) (rngD 0 n) (st ns none none none none none none none none none none none) N x := by
  refine forF_by (fun _ ρ => ∃ c1 c2 c3 c4 c5 c6 c7 c8 c9 c10 c11 : Option AV, ρ = st ns c1 c2 c3 c4 c5 c6 c7 c8 c9 c10 c11 ∧ Cl c1 ∧ Np c2 ∧ Np c3 ∧ Np c4 ∧ Np c5 ∧ Cl c6 ∧ Np c7 ∧ Np c8 ∧ Np c9 ∧ Np c10 ∧ Cl c11) (fun i a ρ ha hI C' hC => ?_) (fun ρ hI => ?_)
    ⟨none, none, none, none, none, none, none, none, none, none, none, rfl, .no, nofun, nofun, nofun, nofun, .no, nofun, nofun, nofun, nofun, .no⟩
  · obtain ⟨c1, c2, c3, c4, c5, c6, c7, c8, c9, c10, c11, rfl, k1, k2, k3, k4, k5, k6, k7, k8, k9, k10, k11⟩ := hI
    obtain ⟨hi, rfl⟩ := rngD_get ha
    rw [show (0 : Int) + (i : Nat) = (i : Nat) by omega]
    refine pd rfl k1 ?_
    refine t1_run (m := i) k2 (by omega) (t2_run k3 fun rows a b B => t3_run B k4 k5 (t4_run B (t5_run B k6 k7 k8 fun c6 c7 c8 k6 k7 k8 => t6_run k9 fun ws l nd wd => t7_run l nd wd k10 fun rs M => t8_run M (t9_run k11 fun c11 k11 => t10_run B ?_))))
    exact hC _ ⟨_, _, _, _, _, _, _, _, _, _, _, rfl, .dat, nPot, nDat, nSch, nDat, k6, k7, k8, nDat, nOwn, k11⟩
  · obtain ⟨c1, c2, c3, c4, c5, c6, c7, c8, c9, c10, c11, rfl, _⟩ := hI
    exact h _ _ _ _ _ _ _ _ _ _ _
end
theorem imp_law10 (C DS DT : Addr) : ∀ as k x, as.length = 1 → F_law as k x → KR.fb_law C DS DT (start0 13 as) (Ok k) fun c _ => x c := by
  rintro _ k x _ ⟨ns, rfl, hk⟩
  obtain ⟨M, hM, h0, h6⟩ : ∃ M : Int, M = (if (if (ns.length : Int) < (6 : Int) then (ns.length : Int) else (6 : Int)) > 1 then (if (ns.length : Int) < (6 : Int) then (ns.length : Int) else (6 : Int)) else 1) ∧ 0 ≤ M ∧ M ≤ 6 := ⟨_, rfl, by split <;> split <;> omega, by split <;> split <;> omega⟩
  refine ⟨⟨?_, ?_⟩, ?_⟩
  · show -(2 ^ 62) ≤ (if (if (ns.length : Int) < (6 : Int) then (ns.length : Int) else (6 : Int)) > 1 then (if (ns.length : Int) < (6 : Int) then (ns.length : Int) else (6 : Int)) else 1)
    rw [← hM]
    omega
  · show (if (if (ns.length : Int) < (6 : Int) then (ns.length : Int) else (6 : Int)) > 1 then (if (ns.length : Int) < (6 : Int) then (ns.length : Int) else (6 : Int)) else 1) < 2 ^ 62
    rw [← hM]
    omega
  show forF (gN 1) (OuterF C DS DT) (rngD 0 (if (if (ns.length : Int) < (6 : Int) then (ns.length : Int) else (6 : Int)) > 1 then (if (ns.length : Int) < (6 : Int) then (ns.length : Int) else (6 : Int)) else 1).toNat) (st ns none none none none none none none none none none none) _ _
  rw [← hM]
  exact outer_run (by omega) fun c1 c2 c3 c4 c5 c6 c7 c8 c9 c10 c11 => hk
end KR
set_option Elab.async false
set_option linter.all false
set_option maxRecDepth 100000
namespace K10
open PySem PySem.Spec PyProof.Rows L2 Evl Kc Kz Kx Tr Mg TL ClX K23 K22 K27 K24 KA KB KI KP KR
def spLaw (K : PySem.W.Frag) : Sp := fun vs H Q _ => spT K 1 F_law vs H Q fun _ _ _ => False
theorem want_law (K : PySem.W.Frag) (H : Hp) (a : Addr) (ns : List Int) (hS : SqL K H a (ns.map V.int)) : spLaw K [.ref a] H (fun v _ => v = .bl true) fun _ _ _ => False := by
  refine ⟨Tr.noTab H, [.scr ns], (fun r => r = .dat (.bool true)), (fun _ => False), rfl, Tr.noTab_ex, ⟨.cons ⟨a, rfl, Tr.noTab_sql hS⟩ .nil, fun b hb yo => ?_, (fun i j b c v n h1 h2 o1 _ _ _ => ?_), Tr.noTab_gno⟩, ⟨ns, rfl, rfl⟩, fun r G' v H' po rr hk => ?_, fun _ _ _ _ _ _ z => z.elim⟩
  · cases List.mem_singleton.mp hb
    cases yo
  · cases List.mem_singleton.mp (List.mem_of_getElem? h1)
    cases o1
  · subst hk
    rcases rr with ⟨_, hh⟩ | ⟨z, _⟩
    · cases (show Rp K G' v (.bool true) from hh)
      rfl
    · cases z
set_option maxHeartbeats 0 in
theorem all_mk {l : PySem.W.OpenLaw} {w : World} {K : PySem.W.Frag} {h : Heap} {mg : Str → Option Value} {fa C kt : Addr} (X : K.In h) (G : h.Ns mainGlobals mg) (hfa : mg "law" = some (.ref fa))
    {fis_name fis_field ffield_problem flaw_word flaw_words flaw_mixed flaw_fields flaw_is_word flaw_note_of flaw_rows_in flaw_met flaw_bent flaw flaw_draw flaw_pot finit fslen fsflds fstext fsnames fseq fsread : Addr} {odis_name anis_name odis_field anis_field odfield_problem anfield_problem odlaw_word anlaw_word odlaw_words anlaw_words odlaw_mixed anlaw_mixed odlaw_fields anlaw_fields odlaw_is_word anlaw_is_word odlaw_note_of anlaw_note_of odlaw_rows_in anlaw_rows_in odlaw_met anlaw_met odlaw_bent anlaw_bent odlaw anlaw odlaw_draw anlaw_draw odlaw_pot anlaw_pot odinit aninit odslen anslen odsflds ansflds odstext anstext odsnames ansnames odseq anseq odsread ansread ddk : Option Addr} {slis_name slis_field slfield_problem sllaw_word sllaw_words sllaw_mixed sllaw_fields sllaw_is_word sllaw_note_of sllaw_rows_in sllaw_met sllaw_bent sllaw sllaw_draw sllaw_pot slinit slslen slsflds slstext slsnames slseq slsread slk : Array (Option Value)} {nk : Nat}
    {ocis_name kVis_name dcis_name pmis_name cdis_name ctis_name ocis_field kVis_field dcis_field pmis_field cdis_field ctis_field ocfield_problem kVfield_problem dcfield_problem pmfield_problem cdfield_problem ctfield_problem oclaw_word kVlaw_word dclaw_word pmlaw_word cdlaw_word ctlaw_word oclaw_words kVlaw_words dclaw_words pmlaw_words cdlaw_words ctlaw_words oclaw_mixed kVlaw_mixed dclaw_mixed pmlaw_mixed cdlaw_mixed ctlaw_mixed oclaw_fields kVlaw_fields dclaw_fields pmlaw_fields cdlaw_fields ctlaw_fields oclaw_is_word kVlaw_is_word dclaw_is_word pmlaw_is_word cdlaw_is_word ctlaw_is_word oclaw_note_of kVlaw_note_of dclaw_note_of pmlaw_note_of cdlaw_note_of ctlaw_note_of oclaw_rows_in kVlaw_rows_in dclaw_rows_in pmlaw_rows_in cdlaw_rows_in ctlaw_rows_in oclaw_met kVlaw_met dclaw_met pmlaw_met cdlaw_met ctlaw_met oclaw_bent kVlaw_bent dclaw_bent pmlaw_bent cdlaw_bent ctlaw_bent oclaw kVlaw dclaw pmlaw cdlaw ctlaw oclaw_draw kVlaw_draw dclaw_draw pmlaw_draw cdlaw_draw ctlaw_draw oclaw_pot kVlaw_pot dclaw_pot pmlaw_pot cdlaw_pot ctlaw_pot ocinit kVinit dcinit pminit cdinit ctinit ocslen kVslen dcslen pmslen cdslen ctslen ocsflds kVsflds dcsflds pmsflds cdsflds ctsflds ocstext kVstext dcstext pmstext cdstext ctstext ocsnames kVsnames dcsnames pmsnames cdsnames ctsnames ocseq kVseq dcseq pmseq cdseq ctseq ocsread kVsread dcsread pmsread cdsread ctsread : Value} {t1 t2 t3 tL tC q1 q2 q3 : Tok}
    {D_InvalidCommand D_InvalidSchema D_InvalidText D_InvalidVersion D_MergeError : Addr}
    {fkept tpK : Addr} {ocK kVK dcK pmK cdK ctK ocT : Value} {odK anK odT : Option Addr} {slK slT : Array (Option Value)} {nT : Nat} {tkT : Tok}
    {fi_InvalidText cda_InvalidText cc_InvalidText N_InvalidText : Addr} {nm_InvalidText q_InvalidText file_InvalidText : Str} {bs_InvalidText bm_InvalidText sub_InvalidText : List Value} {sn_InvalidText : List Str} {ab_InvalidText : Bool} {col_InvalidText : Option Bool} {dd_InvalidText di_InvalidText an_InvalidText dl_InvalidText de_InvalidText : Option Addr} {k0_InvalidText k1_InvalidText k2_InvalidText k3_InvalidText k5_InvalidText : Option Value} {oi_InvalidText kv_InvalidText dc_InvalidText pm_InvalidText ct_InvalidText ol_InvalidText oe_InvalidText : Value} {si_InvalidText sl_InvalidText se_InvalidText : Array (Option Value)} {vs_InvalidText : Array Value} {tf_InvalidText : Tok}
    {fi_InvalidSchema cda_InvalidSchema cc_InvalidSchema N_InvalidSchema : Addr} {nm_InvalidSchema q_InvalidSchema file_InvalidSchema : Str} {bs_InvalidSchema bm_InvalidSchema sub_InvalidSchema : List Value} {sn_InvalidSchema : List Str} {ab_InvalidSchema : Bool} {col_InvalidSchema : Option Bool} {dd_InvalidSchema di_InvalidSchema an_InvalidSchema dl_InvalidSchema de_InvalidSchema : Option Addr} {k0_InvalidSchema k1_InvalidSchema k2_InvalidSchema k3_InvalidSchema k5_InvalidSchema : Option Value} {oi_InvalidSchema kv_InvalidSchema dc_InvalidSchema pm_InvalidSchema ct_InvalidSchema ol_InvalidSchema oe_InvalidSchema : Value} {si_InvalidSchema sl_InvalidSchema se_InvalidSchema : Array (Option Value)} {vs_InvalidSchema : Array Value} {tf_InvalidSchema : Tok}
    {p_sread : Addr} {rr_sread : List Value}
    (ais_name : PySem.W.nsIn K mainGlobals "is_name" = some (some (.ref fis_name)))
    (ais_field : PySem.W.nsIn K mainGlobals "is_field" = some (some (.ref fis_field)))
    (afield_problem : PySem.W.nsIn K mainGlobals "field_problem" = some (some (.ref ffield_problem)))
    (alaw_word : PySem.W.nsIn K mainGlobals "_law_word" = some (some (.ref flaw_word)))
    (alaw_words : PySem.W.nsIn K mainGlobals "_law_words" = some (some (.ref flaw_words)))
    (alaw_mixed : PySem.W.nsIn K mainGlobals "_law_mixed" = some (some (.ref flaw_mixed)))
    (alaw_fields : PySem.W.nsIn K mainGlobals "_law_fields" = some (some (.ref flaw_fields)))
    (alaw_is_word : PySem.W.nsIn K mainGlobals "_law_is_word" = some (some (.ref flaw_is_word)))
    (alaw_note_of : PySem.W.nsIn K mainGlobals "_law_note_of" = some (some (.ref flaw_note_of)))
    (alaw_rows_in : PySem.W.nsIn K mainGlobals "_law_rows_in" = some (some (.ref flaw_rows_in)))
    (alaw_met : PySem.W.nsIn K mainGlobals "_law_met" = some (some (.ref flaw_met)))
    (alaw_bent : PySem.W.nsIn K mainGlobals "_law_bent" = some (some (.ref flaw_bent)))
    (alaw : PySem.W.nsIn K mainGlobals "law" = some (some (.ref flaw)))
    (alaw_draw : PySem.W.nsIn K mainGlobals "_law_draw" = some (some (.ref flaw_draw)))
    (alaw_pot : PySem.W.nsIn K mainGlobals "_law_pot" = some (some (.ref flaw_pot)))
    (aC : PySem.W.nsIn K mainGlobals "Schema" = some (some (.ref C)))
    (ainit : PySem.W.findIn K (.ref C) "__init__" = some (some (.ref finit)))
    (aslen : PySem.W.findIn K (.ref C) "__len__" = some (some (.ref fslen)))
    (asflds : PySem.W.findIn K (.ref C) "fields" = some (some (.ref fsflds)))
    (astext : PySem.W.findIn K (.ref C) "text" = some (some (.ref fstext)))
    (asnames : PySem.W.findIn K (.ref C) "names" = some (some (.ref fsnames)))
    (aseq : PySem.W.findIn K (.ref C) "__eq__" = some (some (.ref fseq)))
    (asread : PySem.W.findCls K (.ref C) (.type "type") "read" = some (.get (.builtin "classmethod.__get__") (.ref p_sread) .none (.ref C)))
    (rsread : PySem.W.recIn K p_sread "classmethod" = some (.ref fsread :: rr_sread))
    (nsread : PySem.W.fnIn K fsread = true)
    (lis_name : K.lookup fis_name = some ⟨ocis_name, odis_name, .func (PySem.W.fnOf "is_name" "is_name" (defArgs s_is_name) (defBody s_is_name) (defScope s_is_name) .none kVis_name dcis_name pmis_name anis_name cdis_name ctis_name), slis_name⟩)
    (cis_name : PySem.W.codeIn K cdis_name "is_name" = true)
    (kis_name : PySem.W.keepIn K (.ref fis_name) = true)
    (lis_field : K.lookup fis_field = some ⟨ocis_field, odis_field, .func (PySem.W.fnOf "is_field" "is_field" (defArgs s_is_field) (defBody s_is_field) (defScope s_is_field) .none kVis_field dcis_field pmis_field anis_field cdis_field ctis_field), slis_field⟩)
    (cis_field : PySem.W.codeIn K cdis_field "is_field" = true)
    (kis_field : PySem.W.keepIn K (.ref fis_field) = true)
    (lfield_problem : K.lookup ffield_problem = some ⟨ocfield_problem, odfield_problem, .func (PySem.W.fnOf "field_problem" "field_problem" (defArgs s_field_problem) (defBody s_field_problem) (defScope s_field_problem) .none kVfield_problem dcfield_problem pmfield_problem anfield_problem cdfield_problem ctfield_problem), slfield_problem⟩)
    (cfield_problem : PySem.W.codeIn K cdfield_problem "field_problem" = true)
    (kfield_problem : PySem.W.keepIn K (.ref ffield_problem) = true)
    (llaw_word : K.lookup flaw_word = some ⟨oclaw_word, odlaw_word, .func (PySem.W.fnOf "_law_word" "_law_word" (defArgs s_law_word) (defBody s_law_word) (defScope s_law_word) .none kVlaw_word dclaw_word pmlaw_word anlaw_word cdlaw_word ctlaw_word), sllaw_word⟩)
    (claw_word : PySem.W.codeIn K cdlaw_word "_law_word" = true)
    (klaw_word : PySem.W.keepIn K (.ref flaw_word) = true)
    (llaw_words : K.lookup flaw_words = some ⟨oclaw_words, odlaw_words, .func (PySem.W.fnOf "_law_words" "_law_words" (defArgs s_law_words) (defBody s_law_words) (defScope s_law_words) .none kVlaw_words dclaw_words pmlaw_words anlaw_words cdlaw_words ctlaw_words), sllaw_words⟩)
    (claw_words : PySem.W.codeIn K cdlaw_words "_law_words" = true)
    (klaw_words : PySem.W.keepIn K (.ref flaw_words) = true)
    (llaw_mixed : K.lookup flaw_mixed = some ⟨oclaw_mixed, odlaw_mixed, .func (PySem.W.fnOf "_law_mixed" "_law_mixed" (defArgs s_law_mixed) (defBody s_law_mixed) (defScope s_law_mixed) .none kVlaw_mixed dclaw_mixed pmlaw_mixed anlaw_mixed cdlaw_mixed ctlaw_mixed), sllaw_mixed⟩)
    (claw_mixed : PySem.W.codeIn K cdlaw_mixed "_law_mixed" = true)
    (klaw_mixed : PySem.W.keepIn K (.ref flaw_mixed) = true)
    (llaw_fields : K.lookup flaw_fields = some ⟨oclaw_fields, odlaw_fields, .func (PySem.W.fnOf "_law_fields" "_law_fields" (defArgs s_law_fields) (defBody s_law_fields) (defScope s_law_fields) .none kVlaw_fields dclaw_fields pmlaw_fields anlaw_fields cdlaw_fields ctlaw_fields), sllaw_fields⟩)
    (claw_fields : PySem.W.codeIn K cdlaw_fields "_law_fields" = true)
    (klaw_fields : PySem.W.keepIn K (.ref flaw_fields) = true)
    (llaw_is_word : K.lookup flaw_is_word = some ⟨oclaw_is_word, odlaw_is_word, .func (PySem.W.fnOf "_law_is_word" "_law_is_word" (defArgs s_law_is_word) (defBody s_law_is_word) (defScope s_law_is_word) .none kVlaw_is_word dclaw_is_word pmlaw_is_word anlaw_is_word cdlaw_is_word ctlaw_is_word), sllaw_is_word⟩)
    (claw_is_word : PySem.W.codeIn K cdlaw_is_word "_law_is_word" = true)
    (klaw_is_word : PySem.W.keepIn K (.ref flaw_is_word) = true)
    (llaw_note_of : K.lookup flaw_note_of = some ⟨oclaw_note_of, odlaw_note_of, .func (PySem.W.fnOf "_law_note_of" "_law_note_of" (defArgs s_law_note_of) (defBody s_law_note_of) (defScope s_law_note_of) .none kVlaw_note_of dclaw_note_of pmlaw_note_of anlaw_note_of cdlaw_note_of ctlaw_note_of), sllaw_note_of⟩)
    (claw_note_of : PySem.W.codeIn K cdlaw_note_of "_law_note_of" = true)
    (klaw_note_of : PySem.W.keepIn K (.ref flaw_note_of) = true)
    (llaw_rows_in : K.lookup flaw_rows_in = some ⟨oclaw_rows_in, odlaw_rows_in, .func (PySem.W.fnOf "_law_rows_in" "_law_rows_in" (defArgs s_law_rows_in) (defBody s_law_rows_in) (defScope s_law_rows_in) .none kVlaw_rows_in dclaw_rows_in pmlaw_rows_in anlaw_rows_in cdlaw_rows_in ctlaw_rows_in), sllaw_rows_in⟩)
    (claw_rows_in : PySem.W.codeIn K cdlaw_rows_in "_law_rows_in" = true)
    (klaw_rows_in : PySem.W.keepIn K (.ref flaw_rows_in) = true)
    (llaw_met : K.lookup flaw_met = some ⟨oclaw_met, odlaw_met, .func (PySem.W.fnOf "_law_met" "_law_met" (defArgs s_law_met) (defBody s_law_met) (defScope s_law_met) .none kVlaw_met dclaw_met pmlaw_met anlaw_met cdlaw_met ctlaw_met), sllaw_met⟩)
    (claw_met : PySem.W.codeIn K cdlaw_met "_law_met" = true)
    (klaw_met : PySem.W.keepIn K (.ref flaw_met) = true)
    (llaw_bent : K.lookup flaw_bent = some ⟨oclaw_bent, odlaw_bent, .func (PySem.W.fnOf "_law_bent" "_law_bent" (defArgs s_law_bent) (defBody s_law_bent) (defScope s_law_bent) .none kVlaw_bent dclaw_bent pmlaw_bent anlaw_bent cdlaw_bent ctlaw_bent), sllaw_bent⟩)
    (claw_bent : PySem.W.codeIn K cdlaw_bent "_law_bent" = true)
    (klaw_bent : PySem.W.keepIn K (.ref flaw_bent) = true)
    (llaw : K.lookup flaw = some ⟨oclaw, odlaw, .func (PySem.W.fnOf "law" "law" (defArgs s_law) (defBody s_law) (defScope s_law) .none kVlaw dclaw pmlaw anlaw cdlaw ctlaw), sllaw⟩)
    (claw : PySem.W.codeIn K cdlaw "law" = true)
    (klaw : PySem.W.keepIn K (.ref flaw) = true)
    (llaw_draw : K.lookup flaw_draw = some ⟨oclaw_draw, odlaw_draw, .func (PySem.W.fnOf "_law_draw" "_law_draw" (defArgs K10x.sDraw) (defBody K10x.sDraw) (defScope K10x.sDraw) .none kVlaw_draw dclaw_draw pmlaw_draw anlaw_draw cdlaw_draw ctlaw_draw), sllaw_draw⟩)
    (claw_draw : PySem.W.codeIn K cdlaw_draw "_law_draw" = true)
    (klaw_draw : PySem.W.keepIn K (.ref flaw_draw) = true)
    (llaw_pot : K.lookup flaw_pot = some ⟨oclaw_pot, odlaw_pot, .func (PySem.W.fnOf "_law_pot" "_law_pot" (defArgs K10x.sPot) (defBody K10x.sPot) (defScope K10x.sPot) .none kVlaw_pot dclaw_pot pmlaw_pot anlaw_pot cdlaw_pot ctlaw_pot), sllaw_pot⟩)
    (claw_pot : PySem.W.codeIn K cdlaw_pot "_law_pot" = true)
    (klaw_pot : PySem.W.keepIn K (.ref flaw_pot) = true)
    (linit : K.lookup finit = some ⟨ocinit, odinit, .func (PySem.W.fnOf "__init__" "Schema.__init__" (defArgs s_init) (defBody s_init) (defScope s_init) .none kVinit dcinit pminit aninit cdinit ctinit), slinit⟩)
    (cinit : PySem.W.codeIn K cdinit "Schema.__init__" = true)
    (kinit : PySem.W.keepIn K (.ref finit) = true)
    (lslen : K.lookup fslen = some ⟨ocslen, odslen, .func (PySem.W.fnOf "__len__" "Schema.__len__" (defArgs s_slen) (defBody s_slen) (defScope s_slen) .none kVslen dcslen pmslen anslen cdslen ctslen), slslen⟩)
    (cslen : PySem.W.codeIn K cdslen "Schema.__len__" = true)
    (kslen : PySem.W.keepIn K (.ref fslen) = true)
    (lsflds : K.lookup fsflds = some ⟨ocsflds, odsflds, .func (PySem.W.fnOf "fields" "Schema.fields" (defArgs s_sflds) (defBody s_sflds) (defScope s_sflds) .none kVsflds dcsflds pmsflds ansflds cdsflds ctsflds), slsflds⟩)
    (csflds : PySem.W.codeIn K cdsflds "Schema.fields" = true)
    (ksflds : PySem.W.keepIn K (.ref fsflds) = true)
    (lstext : K.lookup fstext = some ⟨ocstext, odstext, .func (PySem.W.fnOf "text" "Schema.text" (defArgs s_stext) (defBody s_stext) (defScope s_stext) .none kVstext dcstext pmstext anstext cdstext ctstext), slstext⟩)
    (cstext : PySem.W.codeIn K cdstext "Schema.text" = true)
    (kstext : PySem.W.keepIn K (.ref fstext) = true)
    (lsnames : K.lookup fsnames = some ⟨ocsnames, odsnames, .func (PySem.W.fnOf "names" "Schema.names" (defArgs s_snames) (defBody s_snames) (defScope s_snames) .none kVsnames dcsnames pmsnames ansnames cdsnames ctsnames), slsnames⟩)
    (csnames : PySem.W.codeIn K cdsnames "Schema.names" = true)
    (ksnames : PySem.W.keepIn K (.ref fsnames) = true)
    (lseq : K.lookup fseq = some ⟨ocseq, odseq, .func (PySem.W.fnOf "__eq__" "Schema.__eq__" (defArgs s_seq) (defBody s_seq) (defScope s_seq) .none kVseq dcseq pmseq anseq cdseq ctseq), slseq⟩)
    (cseq : PySem.W.codeIn K cdseq "Schema.__eq__" = true)
    (kseq : PySem.W.keepIn K (.ref fseq) = true)
    (lsread : K.lookup fsread = some ⟨ocsread, odsread, .func (PySem.W.fnOf "read" "Schema.read" (defArgs s_sread) (defBody s_sread) (defScope s_sread) .none kVsread dcsread pmsread ansread cdsread ctsread), slsread⟩)
    (csread : PySem.W.codeIn K cdsread "Schema.read" = true)
    (ksread : PySem.W.keepIn K (.ref fsread) = true)
    (iinit : PySem.W.isFn K (.ref finit) = true)
    (islen : PySem.W.isFn K (.ref fslen) = true)
    (isflds : PySem.W.isFn K (.ref fsflds) = true)
    (istext : PySem.W.isFn K (.ref fstext) = true)
    (isnames : PySem.W.isFn K (.ref fsnames) = true)
    (iseq : PySem.W.isFn K (.ref fseq) = true)
    (zlen : PySem.W.nsIn K mainGlobals "len" = some none)
    (zisinstance : PySem.W.nsIn K mainGlobals "isinstance" = some none)
    (zstr : PySem.W.nsIn K mainGlobals "str" = some none)
    (zint : PySem.W.nsIn K mainGlobals "int" = some none)
    (zbool : PySem.W.nsIn K mainGlobals "bool" = some none)
    (zlist : PySem.W.nsIn K mainGlobals "list" = some none)
    (ztuple : PySem.W.nsIn K mainGlobals "tuple" = some none)
    (zdict : PySem.W.nsIn K mainGlobals "dict" = some none)
    (zall : PySem.W.nsIn K mainGlobals "all" = some none)
    (zany : PySem.W.nsIn K mainGlobals "any" = some none)
    (zmax : PySem.W.nsIn K mainGlobals "max" = some none)
    (zmin : PySem.W.nsIn K mainGlobals "min" = some none)
    (zsum : PySem.W.nsIn K mainGlobals "sum" = some none)
    (zabs : PySem.W.nsIn K mainGlobals "abs" = some none)
    (zdivmod : PySem.W.nsIn K mainGlobals "divmod" = some none)
    (zrange : PySem.W.nsIn K mainGlobals "range" = some none)
    (zrepr : PySem.W.nsIn K mainGlobals "repr" = some none)
    (zzip : PySem.W.nsIn K mainGlobals "zip" = some none)
    (zenumerate : PySem.W.nsIn K mainGlobals "enumerate" = some none)
    (zsorted : PySem.W.nsIn K mainGlobals "sorted" = some none)
    (y1 : PySem.W.nsIn K mainGlobals "LETTERS" = some (some (.str abc t1)))
    (y2 : PySem.W.nsIn K mainGlobals "MOST_LETTERS" = some (some (.int 8 t2)))
    (y3 : PySem.W.nsIn K mainGlobals "COUNTER" = some (some (.str "counter" t3)))
    (y4 : PySem.W.nsIn K mainGlobals "KINDS" = some (some (.ref kt)))
    (y5 : K.lookup kt = some ⟨.type "tuple", ddk, .seq #[.str "mine" q1, .str "theirs" q2, .str "counter" q3] nk, slk⟩)
    (g1 : PySem.W.plainGet K C Str.empty = true)
    (g2 : PySem.W.hasDictIn K C = true)
    (g3 : PySem.W.plainOver K C = true)
    (g4 : PySem.W.findIn K (.ref C) "__setattr__" = some (some (.builtin "object.__setattr__")))
    (g5 : PySem.W.findIn K (.ref C) "rows" = some none)
    (g6 : PySem.W.makesIn K C = true)
    (g7 : PySem.W.keepIn K (.ref C) = true)
    (g8 : PySem.W.readsIn K C (.type "type") = true)
    (g9 : PySem.W.specialIn K (.ref C) "__getattribute__" = some (some (.builtin "type.__getattribute__")))
    (g10 : PySem.W.findCls K (.ref C) (.type "type") "MOST_LABELS" = some (.val (.int 12 tL)))
    (g11 : PySem.W.findCls K (.ref C) (.type "type") "MOST_COUNTERS" = some (.val (.int 4 tC)))
    (gI1 : PySem.W.findIn K (.ref C) "__class__" = some (some (.builtin "object.__class__")))
    (gI2 : PySem.W.specialIn K (.builtin "object.__class__") "__get__" = some (some (.builtin "getset_descriptor.__get__")))
    (gI3 : PySem.W.takesIn K (.builtin "object.__class__") = some true)
    (gI4 : PySem.W.mroIn K C (.type "object") = some true)
    (gI5 : PySem.W.kitOne K (.ref C) (.ref C) = some true)
    (a_InvalidCommand : PySem.W.nsIn K mainGlobals "InvalidCommand" = some (some (.ref D_InvalidCommand)))
    (a_InvalidSchema : PySem.W.nsIn K mainGlobals "InvalidSchema" = some (some (.ref D_InvalidSchema)))
    (a_InvalidText : PySem.W.nsIn K mainGlobals "InvalidText" = some (some (.ref D_InvalidText)))
    (a_InvalidVersion : PySem.W.nsIn K mainGlobals "InvalidVersion" = some (some (.ref D_InvalidVersion)))
    (a_MergeError : PySem.W.nsIn K mainGlobals "MergeError" = some (some (.ref D_MergeError)))
    (ka_InvalidText_InvalidSchema_InvalidVersion_InvalidCommand : PySem.W.kitAny K (.ref D_InvalidText) [(.ref D_InvalidSchema), (.ref D_InvalidVersion), (.ref D_InvalidCommand)] = some false)
    (ki_InvalidText_MergeError : PySem.W.kitOne K (.ref D_InvalidText) (.ref D_MergeError) = some true)
    (no_InvalidText_line : PySem.W.findIn K (.ref D_InvalidText) "line" = some none)
    (kn_str : PySem.W.kitOne K (.ref C) (.type "str") = some false)
    (tn_InvalidText_InvalidSchema : PySem.W.exmOne K (.ref D_InvalidText) (.ref D_InvalidSchema) = some false)
    (tn_InvalidCommand_InvalidSchema : PySem.W.exmOne K (.ref D_InvalidCommand) (.ref D_InvalidSchema) = some false)
    (tE_InvalidSchema : PySem.W.exmOne K (.ref D_InvalidSchema) (.ref D_InvalidSchema) = some true)
    (tE_InvalidText : PySem.W.exmOne K (.ref D_InvalidText) (.ref D_InvalidText) = some true)
    (x1_InvalidText : PySem.W.findIn K (.ref D_InvalidText) "__getattribute__" = some (some (.builtin "BaseException.__getattribute__")))
    (x2_InvalidText : PySem.W.findIn K (.ref D_InvalidText) "__getattr__" = some none)
    (x3_InvalidText : PySem.W.subIn K (.ref D_InvalidText) (.type "BaseException") = some true)
    (x4_InvalidText : PySem.W.hasDictIn K D_InvalidText = true)
    (x5_InvalidText : PySem.W.findIn K (.ref D_InvalidText) "__class__" = some (some (.builtin "object.__class__")))
    (x8_InvalidText : PySem.W.mroIn K D_InvalidText (.type "object") = some true)
    (x6 : PySem.W.specialIn K (.builtin "object.__class__") "__get__" = some (some (.builtin "getset_descriptor.__get__")))
    (x7 : PySem.W.takesIn K (.builtin "object.__class__") = some true)
    (akept : PySem.W.nsIn K mainGlobals "kept" = some (some (.ref fkept)))
    (lkept : K.lookup fkept = some ⟨ocK, odK, .func (PySem.W.fnOf "kept" "kept" (defArgs sKept) (defBody sKept) (defScope sKept) (.ref tpK) kVK dcK pmK anK cdK ctK), slK⟩)
    (ckept : PySem.W.codeIn K cdK "kept" = true)
    (kkept : PySem.W.keepIn K (.ref fkept) = true)
    (tkept : K.lookup tpK = some ⟨ocT, odT, .seq #[.int 5 tkT] nT, slT⟩)
    (zsuper : PySem.W.nsIn K mainGlobals "super" = some none)
    (ezopq : PySem.W.nsIn K cStatics "thirdparty.any" = some none)
    (e1_InvalidText : K.lookup D_InvalidText = some (excClassObj nm_InvalidText q_InvalidText D_InvalidText N_InvalidText bs_InvalidText bm_InvalidText true sn_InvalidText sub_InvalidText ab_InvalidText col_InvalidText dd_InvalidText k0_InvalidText k1_InvalidText k2_InvalidText k3_InvalidText k5_InvalidText "ValueError.__new__"))
    (e2_InvalidText : Kx.overB (Kx.tailOf "ValueError") bm_InvalidText = true)
    (e3_InvalidText : PySem.W.findIn K (.ref D_InvalidText) "__setattr__" = some (some (.builtin "object.__setattr__")))
    (e4_InvalidText : PySem.W.subIn K (.ref D_InvalidText) (.type "BaseException") = some true)
    (e5_InvalidText : PySem.W.typeIn K (.ref D_InvalidText) = some (.type "type"))
    (e6_InvalidText : PySem.W.keepIn K (.ref D_InvalidText) = true)
    (e7_InvalidText : PySem.W.findIn K (.ref D_InvalidText) "__init__" = some (some (.ref fi_InvalidText)))
    (e8_InvalidText : PySem.W.typeIn K (.ref fi_InvalidText) = some (.type "function"))
    (e9_InvalidText : K.lookup fi_InvalidText = some ⟨oi_InvalidText, di_InvalidText, .func (PySem.W.ksFn "__init__" "InvalidText.__init__" (defArgs sI_InvalidText) (defBody sI_InvalidText) (defScope sI_InvalidText) .none kv_InvalidText dc_InvalidText pm_InvalidText an_InvalidText (.ref cda_InvalidText) ct_InvalidText cc_InvalidText), si_InvalidText⟩)
    (eA_InvalidText : PySem.W.codeIn K (.ref cda_InvalidText) "InvalidText.__init__" = true)
    (eB_InvalidText : K.lookup cda_InvalidText = some ⟨ol_InvalidText, dl_InvalidText, .fields vs_InvalidText, sl_InvalidText⟩)
    (eC_InvalidText : vs_InvalidText[2]? = some (.str file_InvalidText tf_InvalidText))
    (eD_InvalidText : ((l.prog.main.file : Str) == file_InvalidText) = true)
    (eE_InvalidText : K.lookup cc_InvalidText = some ⟨oe_InvalidText, de_InvalidText, .cell (some (.ref D_InvalidText)), se_InvalidText⟩)
    (eF_InvalidText : (l.prog.main.scope.names.lookup ("super" : Str)).isSome = false)
    (eG_InvalidText : PySem.W.ks_superIn K D_InvalidText D_InvalidText "__init__" = some (some (.builtin "ValueError.__init__")))
    (eH_InvalidText : PySem.W.mroIn K D_InvalidText (.ref D_InvalidText) = some true)
    (eI_InvalidText : PySem.W.subIn K (.ref D_InvalidText) (.type "ValueError") = some true)
    (eJ_InvalidText : PySem.W.findIn K (.ref D_InvalidText) "line" = some none)
    (e1_InvalidSchema : K.lookup D_InvalidSchema = some (excClassObj nm_InvalidSchema q_InvalidSchema D_InvalidSchema N_InvalidSchema bs_InvalidSchema bm_InvalidSchema true sn_InvalidSchema sub_InvalidSchema ab_InvalidSchema col_InvalidSchema dd_InvalidSchema k0_InvalidSchema k1_InvalidSchema k2_InvalidSchema k3_InvalidSchema k5_InvalidSchema "ValueError.__new__"))
    (e2_InvalidSchema : Kx.overB (Kx.tailOf "ValueError") bm_InvalidSchema = true)
    (e3_InvalidSchema : PySem.W.findIn K (.ref D_InvalidSchema) "__setattr__" = some (some (.builtin "object.__setattr__")))
    (e4_InvalidSchema : PySem.W.subIn K (.ref D_InvalidSchema) (.type "BaseException") = some true)
    (e5_InvalidSchema : PySem.W.typeIn K (.ref D_InvalidSchema) = some (.type "type"))
    (e6_InvalidSchema : PySem.W.keepIn K (.ref D_InvalidSchema) = true)
    (e7_InvalidSchema : PySem.W.findIn K (.ref D_InvalidSchema) "__init__" = some (some (.ref fi_InvalidSchema)))
    (e8_InvalidSchema : PySem.W.typeIn K (.ref fi_InvalidSchema) = some (.type "function"))
    (e9_InvalidSchema : K.lookup fi_InvalidSchema = some ⟨oi_InvalidSchema, di_InvalidSchema, .func (PySem.W.ksFn "__init__" "InvalidSchema.__init__" (defArgs sI_InvalidSchema) (defBody sI_InvalidSchema) (defScope sI_InvalidSchema) .none kv_InvalidSchema dc_InvalidSchema pm_InvalidSchema an_InvalidSchema (.ref cda_InvalidSchema) ct_InvalidSchema cc_InvalidSchema), si_InvalidSchema⟩)
    (eA_InvalidSchema : PySem.W.codeIn K (.ref cda_InvalidSchema) "InvalidSchema.__init__" = true)
    (eB_InvalidSchema : K.lookup cda_InvalidSchema = some ⟨ol_InvalidSchema, dl_InvalidSchema, .fields vs_InvalidSchema, sl_InvalidSchema⟩)
    (eC_InvalidSchema : vs_InvalidSchema[2]? = some (.str file_InvalidSchema tf_InvalidSchema))
    (eD_InvalidSchema : ((l.prog.main.file : Str) == file_InvalidSchema) = true)
    (eE_InvalidSchema : K.lookup cc_InvalidSchema = some ⟨oe_InvalidSchema, de_InvalidSchema, .cell (some (.ref D_InvalidSchema)), se_InvalidSchema⟩)
    (eF_InvalidSchema : (l.prog.main.scope.names.lookup ("super" : Str)).isSome = false)
    (eG_InvalidSchema : PySem.W.ks_superIn K D_InvalidSchema D_InvalidSchema "__init__" = some (some (.builtin "ValueError.__init__")))
    (eH_InvalidSchema : PySem.W.mroIn K D_InvalidSchema (.ref D_InvalidSchema) = some true)
    (eI_InvalidSchema : PySem.W.subIn K (.ref D_InvalidSchema) (.type "ValueError") = some true)
    (eJ_InvalidSchema : PySem.W.findIn K (.ref D_InvalidSchema) "problem" = some none)
    (eK_InvalidSchema : PySem.W.findIn K (.ref D_InvalidSchema) "index" = some none)
    : ∃ fd : FuncData, (∀ (s : Shared) (v : Value), BindsTo s fd ⟨[v], []⟩ [("_law_script", v)]) ∧ ∀ base : Heap, K.In base → base.Ns mainGlobals mg → (∃ o, base.get? sysModules = some o) → FnG l.prog w K mg base CX0 9 fa fd ["_law_script"] (spLaw K) := by
  have e := hfa.symm.trans (PySem.W.mg_of X G alaw)
  cases e
  have Fis_name := fun_mk (st := s_is_name) lis_name cis_name kis_name
  have bis_name := Fis_name.binds (ps := ["thing"]) fun _ _ _ _ _ _ us hl => match us, hl with | [_], _ => rfl
  have Fis_field := fun_mk (st := s_is_field) lis_field cis_field kis_field
  have bis_field := Fis_field.binds (ps := ["thing"]) fun _ _ _ _ _ _ us hl => match us, hl with | [_], _ => rfl
  have Ffield_problem := fun_mk (st := s_field_problem) lfield_problem cfield_problem kfield_problem
  have bfield_problem := Ffield_problem.binds (ps := ["field", "earlier"]) fun _ _ _ _ _ _ us hl => match us, hl with | [_, _], _ => rfl
  have Flaw_word := fun_mk (st := s_law_word) llaw_word claw_word klaw_word
  have blaw_word := Flaw_word.binds (ps := ["_law_pot_here", "_law_taken"]) fun _ _ _ _ _ _ us hl => match us, hl with | [_, _], _ => rfl
  have Flaw_words := fun_mk (st := s_law_words) llaw_words claw_words klaw_words
  have blaw_words := Flaw_words.binds (ps := ["_law_pot_here", "_law_many"]) fun _ _ _ _ _ _ us hl => match us, hl with | [_, _], _ => rfl
  have Flaw_mixed := fun_mk (st := s_law_mixed) llaw_mixed claw_mixed klaw_mixed
  have blaw_mixed := Flaw_mixed.binds (ps := ["_law_pot_here", "_law_given"]) fun _ _ _ _ _ _ us hl => match us, hl with | [_, _], _ => rfl
  have Flaw_fields := fun_mk (st := s_law_fields) llaw_fields claw_fields klaw_fields
  have blaw_fields := Flaw_fields.binds (ps := ["_law_pot_here", "_law_marks", "_law_sums"]) fun _ _ _ _ _ _ us hl => match us, hl with | [_, _, _], _ => rfl
  have Flaw_is_word := fun_mk (st := s_law_is_word) llaw_is_word claw_is_word klaw_is_word
  have blaw_is_word := Flaw_is_word.binds (ps := ["_law_item"]) fun _ _ _ _ _ _ us hl => match us, hl with | [_], _ => rfl
  have Flaw_note_of := fun_mk (st := s_law_note_of) llaw_note_of claw_note_of klaw_note_of
  have blaw_note_of := Flaw_note_of.binds (ps := ["_law_rows"]) fun _ _ _ _ _ _ us hl => match us, hl with | [_], _ => rfl
  have Flaw_rows_in := fun_mk (st := s_law_rows_in) llaw_rows_in claw_rows_in klaw_rows_in
  have blaw_rows_in := Flaw_rows_in.binds (ps := ["_law_note"]) fun _ _ _ _ _ _ us hl => match us, hl with | [_], _ => rfl
  have Flaw_met := fun_mk (st := s_law_met) llaw_met claw_met klaw_met
  have blaw_met := Flaw_met.binds (ps := ["_law_note"]) fun _ _ _ _ _ _ us hl => match us, hl with | [_], _ => rfl
  have Flaw_bent := fun_mk (st := s_law_bent) llaw_bent claw_bent klaw_bent
  have blaw_bent := Flaw_bent.binds (ps := ["_law_pot_here", "_law_note"]) fun _ _ _ _ _ _ us hl => match us, hl with | [_, _], _ => rfl
  have Flaw := fun_mk (st := s_law) llaw claw klaw
  have blaw := Flaw.binds (ps := ["_law_script"]) fun _ _ _ _ _ _ us hl => match us, hl with | [_], _ => rfl
  have Flaw_draw := fun_mk (st := K10x.sDraw) llaw_draw claw_draw klaw_draw
  have blaw_draw := Flaw_draw.binds (ps := ["_law_pot_here", "_law_many"]) fun _ _ _ _ _ _ us hl => match us, hl with | [_, _], _ => rfl
  have Flaw_pot := fun_mk (st := K10x.sPot) llaw_pot claw_pot klaw_pot
  have blaw_pot := Flaw_pot.binds (ps := ["_law_script", "_law_k"]) fun _ _ _ _ _ _ us hl => match us, hl with | [_, _], _ => rfl
  have Finit := fun_mk (st := s_init) linit cinit kinit
  have binit := Finit.binds (ps := ["self", "fields"]) fun _ _ _ _ _ _ us hl => match us, hl with | [_, _], _ => rfl
  have Fslen := fun_mk (st := s_slen) lslen cslen kslen
  have bslen := Fslen.binds (ps := ["self"]) fun _ _ _ _ _ _ us hl => match us, hl with | [_], _ => rfl
  have Fsflds := fun_mk (st := s_sflds) lsflds csflds ksflds
  have bsflds := Fsflds.binds (ps := ["self"]) fun _ _ _ _ _ _ us hl => match us, hl with | [_], _ => rfl
  have Fstext := fun_mk (st := s_stext) lstext cstext kstext
  have bstext := Fstext.binds (ps := ["self"]) fun _ _ _ _ _ _ us hl => match us, hl with | [_], _ => rfl
  have Fsnames := fun_mk (st := s_snames) lsnames csnames ksnames
  have bsnames := Fsnames.binds (ps := ["self"]) fun _ _ _ _ _ _ us hl => match us, hl with | [_], _ => rfl
  have Fseq := fun_mk (st := s_seq) lseq cseq kseq
  have bseq := Fseq.binds (ps := ["self", "other"]) fun _ _ _ _ _ _ us hl => match us, hl with | [_, _], _ => rfl
  have Fsread := fun_mk (st := s_sread) lsread csread ksread
  have bsread := Fsread.binds (ps := ["cls", "text"]) fun _ _ _ _ _ _ us hl => match us, hl with | [_, _], _ => rfl
  have T : Blt mg := ⟨PySem.W.mg_none_of X G zlen, PySem.W.mg_none_of X G zisinstance, PySem.W.mg_none_of X G zstr, PySem.W.mg_none_of X G zint, PySem.W.mg_none_of X G zbool, PySem.W.mg_none_of X G zlist, PySem.W.mg_none_of X G ztuple, PySem.W.mg_none_of X G zdict, PySem.W.mg_none_of X G zall, PySem.W.mg_none_of X G zany, PySem.W.mg_none_of X G zmax, PySem.W.mg_none_of X G zmin, PySem.W.mg_none_of X G zsum, PySem.W.mg_none_of X G zabs, PySem.W.mg_none_of X G zdivmod, PySem.W.mg_none_of X G zrange, PySem.W.mg_none_of X G zrepr, PySem.W.mg_none_of X G zzip, PySem.W.mg_none_of X G zenumerate, PySem.W.mg_none_of X G zsorted⟩
  have T0 : K10x.Tx mg := ⟨T.len, T.isinstance, T.str, T.all, T.max, T.min, T.abs, T.divmod, T.range, T.repr, T.list, T.tuple, T.zip, T.int, T.bool, T.dict, T.enumerate⟩
  have g_LETTERS : ∃ t, mg "LETTERS" = some (.str "abcdefghijklmnopqrstuvwxyz" t) := ⟨_, PySem.W.mg_of X G y1⟩
  have g_MOST_LETTERS : ∃ t, mg "MOST_LETTERS" = some (.int 8 t) := ⟨_, PySem.W.mg_of X G y2⟩
  have g_COUNTER : ∃ t, mg "COUNTER" = some (.str "counter" t) := ⟨_, PySem.W.mg_of X G y3⟩
  have g_KINDS : ∃ a, mg "KINDS" = some (.ref a) ∧ ∀ G, Rp K G (.ref a) (.tuple [.str "mine", .str "theirs", .str "counter"]) := ⟨kt, PySem.W.mg_of X G y4, fun H => .tup (xs := [.str "mine", .str "theirs", .str "counter"]) (.inr ⟨_, _, _, y5, rfl, rfl, (by show 3 ≤ sizeLine; decide), .cons ⟨_, rfl⟩ (.cons ⟨_, rfl⟩ (.cons ⟨_, rfl⟩ .nil))⟩) (.cons (.str _) (.cons (.str _) (.cons (.str _) .nil)))⟩
  have dF : FlS K C := ⟨⟨g1, g2, g3, g4⟩, g5⟩
  have dV : CvS K mg C := ⟨PySem.W.mg_of X G aC, .type "type", _, _, ⟨g8, g9⟩, ⟨g10, ⟨_, rfl⟩⟩, ⟨g11, ⟨_, rfl⟩⟩⟩
  refine ⟨PySem.W.fnOf "law" "law" (defArgs s_law) (defBody s_law) (defScope s_law) .none kVlaw dclaw pmlaw anlaw cdlaw ctlaw, fun s v => .of_eq rfl, fun base _ _ hM => ?_⟩
  have mE_InvalidCommand := PySem.W.mg_of X G a_InvalidCommand
  have mE_InvalidSchema := PySem.W.mg_of X G a_InvalidSchema
  have mE_InvalidText := PySem.W.mg_of X G a_InvalidText
  have mE_InvalidVersion := PySem.W.mg_of X G a_InvalidVersion
  have mE_MergeError := PySem.W.mg_of X G a_MergeError
  have ec_InvalidText : ExcC K D_InvalidText := ⟨x1_InvalidText, x2_InvalidText, x3_InvalidText, x4_InvalidText, x5_InvalidText, x6, x7, x8_InvalidText⟩
  have xf_InvalidText : XfC K D_InvalidText := ⟨x1_InvalidText, x2_InvalidText, x3_InvalidText, x4_InvalidText⟩
  have FK := keptD lkept ckept kkept tkept
  have TK : TkE mg := ⟨T.isinstance, T.list, T.tuple, T.dict, PySem.W.mg_none_of X G zsuper⟩
  have O_InvalidText : OexB K D_InvalidText "ValueError" "ValueError.__new__" "ValueError.__init__" (tailOf "ValueError") := ⟨basV, ⟨_, _, _, _, _, _, _, _, _, _, _, _, _, _, _, e1_InvalidText, over_of e2_InvalidText⟩, e3_InvalidText, e4_InvalidText, e5_InvalidText, e6_InvalidText⟩
  have W_InvalidText := initW_InvalidText (P := l.prog) e9_InvalidText eA_InvalidText eB_InvalidText eC_InvalidText eD_InvalidText eE_InvalidText eF_InvalidText eG_InvalidText eH_InvalidText eI_InvalidText ezopq
  have dE_InvalidText := er_InvalidText (P := l.prog) (w := w) (base := base) FK (PySem.W.mg_of X G akept) TK W_InvalidText O_InvalidText mE_InvalidText e7_InvalidText e8_InvalidText eJ_InvalidText
  have O_InvalidSchema : OexB K D_InvalidSchema "ValueError" "ValueError.__new__" "ValueError.__init__" (tailOf "ValueError") := ⟨basV, ⟨_, _, _, _, _, _, _, _, _, _, _, _, _, _, _, e1_InvalidSchema, over_of e2_InvalidSchema⟩, e3_InvalidSchema, e4_InvalidSchema, e5_InvalidSchema, e6_InvalidSchema⟩
  have W_InvalidSchema := initW_InvalidSchema (P := l.prog) e9_InvalidSchema eA_InvalidSchema eB_InvalidSchema eC_InvalidSchema eD_InvalidSchema eE_InvalidSchema eF_InvalidSchema eG_InvalidSchema eH_InvalidSchema eI_InvalidSchema ezopq
  have dE_InvalidSchema := er_InvalidSchema (P := l.prog) (w := w) (base := base) FK (PySem.W.mg_of X G akept) TK W_InvalidSchema O_InvalidSchema mE_InvalidSchema e7_InvalidSchema e8_InvalidSchema eJ_InvalidSchema eK_InvalidSchema
  have dH_InvalidText := erH_InvalidText (P := l.prog) (w := w) (base := base) FK (PySem.W.mg_of X G akept) TK W_InvalidText O_InvalidText mE_InvalidText e7_InvalidText e8_InvalidText eJ_InvalidText
  have lx_InvalidText : Lax mg (.ref D_InvalidText) := .inl mE_InvalidText
  have tl_InvalidSchema : ∀ c, Lax mg c → PySem.W.exmOne K c (.ref D_InvalidSchema) = some false := fun c h => by
    rcases h with h | h
    · rw [mE_InvalidText] at h
      cases h
      exact tn_InvalidText_InvalidSchema
    · rw [mE_InvalidCommand] at h
      cases h
      exact tn_InvalidCommand_InvalidSchema
  have d__law_draw : DefO l.prog w K mg base "_law_draw" ["_law_pot_here", "_law_many"] 1 F_draw := ⟨⟨_, _, okCX (FnOk.imp (K10x.ok_draw (k := 0) Flaw_draw T0) fun vs H Q E h => draw_of h), PySem.W.mg_of X G alaw_draw, klaw_draw, blaw_draw⟩⟩
  have d__law_pot : DefO l.prog w K mg base "_law_pot" ["_law_script", "_law_k"] 1 F_pot := ⟨⟨_, _, okCX (FnOk.imp (K10x.ok_pot (k := 0) Flaw_pot T0) fun vs H Q E h => pot_of h), PySem.W.mg_of X G alaw_pot, klaw_pot, blaw_pot⟩⟩
  have d_is_name : DefO l.prog w K mg base "is_name" ["thing"] 1 F_nameA := ⟨⟨_, _, fnTo (P := l.prog) (w := w) (mg := mg) (base := base) (F := F_nameA) Fis_name sc_is_name (tr_is_name T g_LETTERS g_MOST_LETTERS) imp_nameA, PySem.W.mg_of X G ais_name, kis_name, bis_name⟩⟩
  have d_is_field : DefO l.prog w K mg base "is_field" ["thing"] 2 F_fieldA := ⟨⟨_, _, fnTo (P := l.prog) (w := w) (mg := mg) (base := base) (F := F_fieldA) Fis_field sc_is_field (tr_is_field T g_KINDS d_is_name) imp_fieldA, PySem.W.mg_of X G ais_field, kis_field, bis_field⟩⟩
  have d_field_problem : DefO l.prog w K mg base "field_problem" ["field", "earlier"] 3 F_problemX := ⟨⟨_, _, fnTo (P := l.prog) (w := w) (mg := mg) (base := base) (F := F_problemX) Ffield_problem sc_field_problem (tr_field_problem (C := C) T dV g_COUNTER d_is_field) (imp_problemX C), PySem.W.mg_of X G afield_problem, kfield_problem, bfield_problem⟩⟩
  have okI := fnInit (P := l.prog) (w := w) (mg := mg) (base := base) (C := C) (F := (F_initX D_InvalidSchema)) Finit sc_init (tr_init (C := C) T dF d_field_problem dE_InvalidSchema) (imp_initX _)
  have okL := fnTo (P := l.prog) (w := w) (mg := mg) (base := base) (F := F_slen C) Fslen sc_slen (tr_slen (C := C) T dF) (imp_slen C)
  have okF := fnTo (P := l.prog) (w := w) (mg := mg) (base := base) (F := F_sflds C) Fsflds sc_sflds (tr_sflds (C := C) T dF) (imp_sflds C)
  have dS : SchF l.prog w K mg base C 4 (F_initX D_InvalidSchema) (F_slen C) (F_sflds C) := ⟨dF.cl, dV.mgC, ⟨_, _, ⟨g6, ainit, iinit, g7⟩, okI, binit⟩, ⟨_, _, aslen, islen, okL, bslen⟩, ⟨_, _, ⟨asflds, isflds, ksflds⟩, okF, bsflds⟩⟩
  have dI : InsC K mg "Schema" C := ⟨dF.cl, dV.mgC, gI1, gI2, gI3, gI4, gI5⟩
  have ok_stext := fnTo (P := l.prog) (w := w) (mg := mg) (base := base) (F := F_text C) Fstext sc_stext (tr_stext (C := C) T dF) (imp_stext C)
  have dM_text : Met0 l.prog w K mg base C "text" 1 (F_text C) := ⟨dF.cl, ⟨_, _, ⟨astext, istext, kstext⟩, ok_stext, bstext⟩⟩
  have ok_snames := fnTo (P := l.prog) (w := w) (mg := mg) (base := base) (F := F_names C) Fsnames sc_snames (tr_snames (C := C) T dF) (imp_snames C)
  have dM_names : Met0 l.prog w K mg base C "names" 1 (F_names C) := ⟨dF.cl, ⟨_, _, ⟨asnames, isnames, ksnames⟩, ok_snames, bsnames⟩⟩
  have ok_seq := fnTo (P := l.prog) (w := w) (mg := mg) (base := base) (F := (F_same C)) Fseq sc_seq (tr_seq (C := C) T dI dF) (imp_same C)
  have dQ : EqM l.prog w K mg base C 1 (F_same C) := ⟨⟨_, _, aseq, iseq, ok_seq, bseq⟩⟩
  have ok_sread := fnTo (P := l.prog) (w := w) (mg := mg) (base := base) (F := (F_readS C D_InvalidText)) Fsread sc_sread (tr_sread (C := C) T dS dI dE_InvalidText mE_InvalidSchema tE_InvalidSchema kn_str tl_InvalidSchema dH_InvalidText lx_InvalidText) (imp_readS C _ _)
  have dC_read : ClsM l.prog w K mg base C "Schema" "read" "cls" "text" 6 (F_readS C D_InvalidText) := ⟨dV.mgC, ⟨.type "type", p_sread, _, _, ⟨g8, g9⟩, ⟨asread, ⟨_, rsread⟩, nsread⟩, ok_sread, bsread⟩⟩
  have dCk_read : ClsK l.prog w K mg base C "Schema" "read" "cls" "text" 6 (F_readS C D_InvalidText) := ⟨dV.mgC, ⟨.type "type", p_sread, _, _, ⟨g8, g9⟩, ⟨asread, ⟨_, rsread⟩, nsread⟩, ok_sread, fun s u v => .of_eq rfl⟩⟩
  have d__law_word : DefO l.prog w K mg base "_law_word" ["_law_pot_here", "_law_taken"] 2 F_word := ⟨⟨_, _, fnTo (P := l.prog) (w := w) (mg := mg) (base := base) (F := F_word) Flaw_word sc_law_word (tr_law_word T d__law_draw) imp_word, PySem.W.mg_of X G alaw_word, klaw_word, blaw_word⟩⟩
  have d__law_words : DefO l.prog w K mg base "_law_words" ["_law_pot_here", "_law_many"] 3 F_words25 := ⟨⟨_, _, fnTo (P := l.prog) (w := w) (mg := mg) (base := base) (F := F_words25) Flaw_words sc_law_words (tr_law_words T d__law_word) imp_words25, PySem.W.mg_of X G alaw_words, klaw_words, blaw_words⟩⟩
  have d__law_words_W : DefO l.prog w K mg base "_law_words" ["_law_pot_here", "_law_many"] 3 F_words := defO_imp words25 d__law_words
  have d__law_mixed : DefO l.prog w K mg base "_law_mixed" ["_law_pot_here", "_law_given"] 2 F_mixed := ⟨⟨_, _, fnTo (P := l.prog) (w := w) (mg := mg) (base := base) (F := F_mixed) Flaw_mixed sc_law_mixed (tr_law_mixed T d__law_draw) imp_mixed, PySem.W.mg_of X G alaw_mixed, klaw_mixed, blaw_mixed⟩⟩
  have d__law_fields : DefO l.prog w K mg base "_law_fields" ["_law_pot_here", "_law_marks", "_law_sums"] 4 F_fields := ⟨⟨_, _, fnTo (P := l.prog) (w := w) (mg := mg) (base := base) (F := F_fields) Flaw_fields sc_law_fields (tr_law_fields T d__law_draw d__law_mixed d__law_words_W) imp_fields, PySem.W.mg_of X G alaw_fields, klaw_fields, blaw_fields⟩⟩
  have d__law_is_word : DefO l.prog w K mg base "_law_is_word" ["_law_item"] 1 F_nameA := ⟨⟨_, _, fnTo (P := l.prog) (w := w) (mg := mg) (base := base) (F := F_nameA) Flaw_is_word sc_law_is_word (tr_law_is_word T) imp_lword, PySem.W.mg_of X G alaw_is_word, klaw_is_word, blaw_is_word⟩⟩
  have d__law_note_of : DefO l.prog w K mg base "_law_note_of" ["_law_rows"] 1 F_noteOf := ⟨⟨_, _, fnTo (P := l.prog) (w := w) (mg := mg) (base := base) (F := F_noteOf) Flaw_note_of sc_law_note_of (tr_law_note_of T) imp_noteOf, PySem.W.mg_of X G alaw_note_of, klaw_note_of, blaw_note_of⟩⟩
  have d__law_rows_in : DefO l.prog w K mg base "_law_rows_in" ["_law_note"] 2 F_rowsIn := ⟨⟨_, _, fnTo (P := l.prog) (w := w) (mg := mg) (base := base) (F := F_rowsIn) Flaw_rows_in sc_law_rows_in (tr_law_rows_in T d__law_is_word) imp_rowsIn, PySem.W.mg_of X G alaw_rows_in, klaw_rows_in, blaw_rows_in⟩⟩
  have d__law_met : DefO l.prog w K mg base "_law_met" ["_law_note"] 7 (F_met10 C) := ⟨⟨_, _, fnTo (P := l.prog) (w := w) (mg := mg) (base := base) (F := (F_met10 C)) Flaw_met sc_law_met (tr_law_met (C := C) T dS dC_read dI mE_InvalidText tE_InvalidText ec_InvalidText mE_InvalidSchema mE_InvalidVersion mE_InvalidCommand ka_InvalidText_InvalidSchema_InvalidVersion_InvalidCommand mE_MergeError ki_InvalidText_MergeError xf_InvalidText no_InvalidText_line) (imp_met10 C _), PySem.W.mg_of X G alaw_met, klaw_met, blaw_met⟩⟩
  have d__law_bent : DefO l.prog w K mg base "_law_bent" ["_law_pot_here", "_law_note"] 2 F_bent10 := ⟨⟨_, _, fnTo (P := l.prog) (w := w) (mg := mg) (base := base) (F := F_bent10) Flaw_bent sc_law_bent (tr_law_bent T d__law_draw) imp_bent10, PySem.W.mg_of X G alaw_bent, klaw_bent, blaw_bent⟩⟩
  exact calmG (fnT (P := l.prog) (w := w) (mg := mg) (base := base) (F := F_law) Flaw sc_law (tr_law (C := C) T dS dC_read dQ dM_text dM_names d__law_pot d__law_fields d__law_draw d__law_note_of d__law_bent d__law_rows_in d__law_met d__law_words dCk_read hM) (imp_law10 C _ _))
end K10
set_option Elab.async false
set_option linter.all false
set_option maxRecDepth 100000
namespace Kx
open PySem PySem.Spec PyProof.Rows L2
section
variable {P : Program} {w : World} {K : PySem.W.Frag} {mg mb : Str → Option Value}
theorem law_callM {CX : CXT} {k : Nat} {fa a : Addr} {fd : FuncData} {x : Str} {sp : Sp} {s₁ : Shared} {vs : List Value} {ns : List Int}
    (KX : K.In s₁.heap) (gl : s₁.heap.Ns mainGlobals mg) (bl : s₁.heap.Ns builtinsNs mb)
    (boot : ∀ x : Str, x ≠ "__name__" → mb x = bootBuiltins x) (lim : s₁.heap.NoLimit) (sm : ∃ mm, s₁.heap.Ns sysModules mm) (hg : s₁.gens = #[])
    (ha : s₁.heap.get? a = some { cls := .type "list", data := .seq vs.toArray }) (hi : IntsAre vs ns) (hl : ns.length ≤ sizeLine)
    (room : Room k callerA)
    (F : ∀ base : Heap, K.In base → base.Ns mainGlobals mg → (∃ o, base.get? sysModules = some o) → FnG P w K mg base CX k fa fd [x] sp)
    (bind : ∀ (s : Shared) (u : Value), BindsTo s fd ⟨[u], []⟩ [(x, u)])
    (want : ∀ H : Hp, Only H → SqL K H a (ns.map V.int) → sp [.ref a] H (fun v _ => v = .bl true) fun _ _ _ => False)
    (noX : ∀ H e s', CX [] H s₁ (fun _ _ _ => False) e s' → False) :
    codeAny (model P w) callerA (.call (.ref fa) ⟨[.ref a], []⟩)
      (fun r s' => r = .ok (.ret (.bool true)) ∧ OldK s₁.heap s'.heap ∧ s'.os = s₁.os ∧ AllBare s'.gens) s₁ := by
  have rv := vals_ints hi
  have ln := hi.length
  have main : ∀ H : Hp, Only H → SqL K H a (ns.map V.int) → HOk P w H s₁.heap → (∀ b, H b ≠ none → b = a) → (H a ≠ none → K.lookup a = none) →
      codeAny (model P w) callerA (.call (.ref fa) ⟨[.ref a], []⟩)
        (fun r s' => r = .ok (.ret (.bool true)) ∧ OldK s₁.heap s'.heap ∧ s'.os = s₁.os ∧ AllBare s'.gens) s₁ := by
    intro H only seq hok hA hK
    have stays : ∀ {b : Addr} {o : Obj}, s₁.heap.get? b = some o → H b = none → (hidT s₁.heap H).get? b = some o :=
      fun e n => hidT_get e n
    have notA : ∀ {b : Addr} {o : Obj} {es : Array DictEntry} {ep : Nat}, s₁.heap.get? b = some o → o.data = .dict es ep → H b = none := by
      intro b o es ep e dd
      refine Classical.byContradiction fun nn => ?_
      have ba := hA b nn
      subst ba
      rw [ha] at e
      cases e
      cases (show Data.seq vs.toArray _ = Data.dict es ep from dd)
    have nsK : ∀ {b : Addr} {m : Str → Option Value}, s₁.heap.Ns b m → (hidT s₁.heap H).Ns b m := by
      rintro b m ⟨o, es, ep, e, dd, r⟩
      exact ⟨o, es, ep, stays e (notA e dd), dd, r⟩
    have kb : K.In (hidT s₁.heap H) := by
      intro b o e
      refine stays (KX b o e) (Classical.byContradiction fun nn => ?_)
      have ba := hA b nn
      subst ba
      rw [hK nn] at e
      cases e
    have md : Mod K mg (hidT s₁.heap H) := by
      obtain ⟨mc, l1, l2⟩ := lim
      exact ⟨kb, nsK gl, ⟨mb, nsK bl, boot⟩, ⟨mc, nsK l1, l2⟩⟩
    have en : Env0 P w K mg (hidT s₁.heap H) callerA [] s₁ H :=
      { frames := rfl, mod := md, bs := fun b o e => of_hidT e, bsz := Nat.le_of_eq (hidT_size _ _), funs := trivial,
        frf := (fun b hb => nomatch (show b ∈ ([] : List Addr) from hb)), hok := hok, bare := .of_eq hg }
    have run := (F _ kb (nsK gl) (by obtain ⟨mm, q⟩ := sm; obtain ⟨o, es, ep, e, _⟩ := nsK q; exact ⟨o, e⟩)).goes callerA [] s₁ H ⟨[.ref a], []⟩ [.ref a] [.ref a] _ _ rfl room en (bind s₁ (.ref a)) (.cons rfl .nil) (want H only seq)
    refine codeAny_mono run fun r s' got => ?_
    match r, got with
    | .error e, got => exact (noX H e s' got).elim
    | .ok (.ret u), got =>
      obtain ⟨v, H', os, bare, un, hok', r', q⟩ := got
      cases (show v = .bl true from q)
      cases (show u = Value.bool true from r')
      refine ⟨rfl, OldK.of_keep (fun b o e => ?_), os, bare⟩
      cases q : H b with
      | none => exact un.keep b o e q (fun z => nomatch (show b ∈ ([] : List Addr) from z)) (by simp)
      | some u =>
        rcases only b with z | ⟨ob, xs, z⟩
        · rw [q] at z
          cases z
        · obtain ⟨e1, _⟩ := hok b _ z
          obtain ⟨e2, _⟩ := hok' b _ (un.frzs b ob _ z)
          rw [e] at e1
          cases e1
          exact e2
  cases lk : K.lookup a with
  | some o =>
    have e := KX a o lk
    rw [ha] at e
    cases e
    refine main (fun _ => none) (fun _ => .inl rfl) (.inr ⟨_, vs.toArray, _, lk, rfl, rfl, rfl, ?_, ?_⟩) (fun b u z => nomatch (show (none : Option HO) = some u from z)) (fun b z => absurd rfl z) fun z => absurd rfl z
    · rw [List.size_toArray, ln]
      exact hl
    · simpa using rv
  | none =>
    have at_ : ∀ {b : Addr} {y : Option HO}, (if b = a then some (HO.frz { cls := .type "list", data := .seq vs.toArray } (.lst (ns.map V.int))) else none) = y →
        (b = a ∧ y = some (HO.frz { cls := .type "list", data := .seq vs.toArray } (.lst (ns.map V.int)))) ∨ (b ≠ a ∧ y = none) := by
      intro b y e
      by_cases c : b = a
      · rw [if_pos c] at e
        exact .inl ⟨c, e.symm⟩
      · rw [if_neg c] at e
        exact .inr ⟨c, e.symm⟩
    refine main (fun b => if b = a then some (.frz { cls := .type "list", data := .seq vs.toArray } (.lst (ns.map V.int))) else none) (fun b => ?_) (.inl (.inr ⟨_, if_pos rfl⟩)) (fun b u z => ?_) (fun b z => ?_) fun _ => lk
    · rcases at_ (b := b) rfl with ⟨_, e⟩ | ⟨_, e⟩
      · exact .inr ⟨_, _, e⟩
      · exact .inl e
    · rcases at_ z with ⟨c, e⟩ | ⟨_, e⟩
      · subst c
        cases e
        exact ⟨ha, (List.length_map ..).symm ▸ hl, vs, _, rv, ha⟩
      · cases e
    · rcases at_ (b := b) rfl with ⟨c, _⟩ | ⟨_, e⟩
      · exact c
      · exact absurd e z
end
theorem walk_M {l : PySem.W.OpenLaw} {n k : Nat} {q : Program} {loose : List Str} {XP : (Str → Option Value) → Heap → Prop}
    {YP : World → Heap → Prop} {d : DefRec} {K : Params → PySem.W.Frag} {CX : CXT} {sp : PySem.W.Frag → Sp} {x : Str}
    (hq : importsNone q = true) (hn : l.most = some n) (hn2 : n ≤ sizeLine) (hdf : d.params.defaults = []) (room : Room k callerA)
    (hY : ∀ (w : World) (hp : Heap), YP w hp → (K w.params).In hp)
    (F : ∀ (w : World) (mg : Str → Option Value) (fa : Addr) (hp : Heap), (K w.params).In hp → hp.Ns mainGlobals mg → mg d.name = some (.ref fa) → ∃ fd : FuncData,
      (∀ (sh : Shared) (u : Value), BindsTo sh fd ⟨[u], []⟩ [(x, u)]) ∧ ∀ base : Heap, (K w.params).In base → base.Ns mainGlobals mg → (∃ o, base.get? sysModules = some o) → FnG l.prog w (K w.params) mg base CX k fa fd [x] (sp (K w.params)))
    (want : ∀ (K : PySem.W.Frag) (H : Hp) (a : Addr) (ns : List Int), ns.length ≤ n → Only H → SqL K H a (ns.map V.int) →
      sp K [.ref a] H (fun v _ => v = .bl true) fun _ _ _ => False)
    (noX : ∀ (H : Hp) (s : Shared) (e : Value) (s' : Shared), CX [] H s (fun _ _ _ => False) e s' → False) : PySem.W.WalkO q loose XP YP l.row.toRowW d [] (fun f vs => PySem.call f vs) := by
  refine Att.attach_call hn hdf fun w _ s₁ mg _ fa _ _ _ _ a vs ns G Y _ _ _ hmg hobj hints hlen hg => ?_
  obtain ⟨fd, hb, hF⟩ := F w mg fa _ (hY w _ Y) G.T.g hmg
  exact law_callM (hY w _ Y) G.T.g G.T.b G.T.builtins G.T.nolimit (let ⟨mm, q, _⟩ := (G.T.seer hq).mods; ⟨mm, q⟩) hg hobj hints (Nat.le_trans hlen hn2) room hF hb (fun H hO hS => want _ H a ns hlen hO hS) fun H e s' => noX H s₁ e s'
end Kx
set_option Elab.async false
set_option linter.all false
set_option maxRecDepth 100000
open PySem PySem.W PyProof.Rows
set_option maxHeartbeats 0 in
theorem PySem.Challenge.cw_mergereach_k10_schema_texts_holds : PySem.Challenge.rw_mergereach_k10_schema_texts.Holds := by
  w_on; o_law; k_head; (case hw => w_witness2)
  k_fill
  refine Kx.walk_M (l := PySem.Challenge.rw_mergereach_k10_schema_texts) (n := 63) (k := 9) (x := "_law_script") (CX := L2.CX0) (sp := K10.spLaw) (by first | rfl | decide +kernel | (with_unfolding_all rfl)) rfl (by decide) rfl ⟨rfl, by decide, by decide⟩ (fun w h Y => PySem.W.kIn_of Y) ?F (fun K H a ns _ _ hS => K10.want_law K H a ns hS) (fun _ _ _ _ h => h)
  case F =>
    intro w mg fa h KX G hmg
    refine' K10.all_mk KX G hmg ?ais_name ?ais_field ?afield_problem ?alaw_word ?alaw_words ?alaw_mixed ?alaw_fields ?alaw_is_word ?alaw_note_of ?alaw_rows_in ?alaw_met ?alaw_bent ?alaw ?alaw_draw ?alaw_pot ?aC ?ainit ?aslen ?asflds ?astext ?asnames ?aseq ?asread ?rsread ?nsread ?lis_name ?cis_name ?kis_name ?lis_field ?cis_field ?kis_field ?lfield_problem ?cfield_problem ?kfield_problem ?llaw_word ?claw_word ?klaw_word ?llaw_words ?claw_words ?klaw_words ?llaw_mixed ?claw_mixed ?klaw_mixed ?llaw_fields ?claw_fields ?klaw_fields ?llaw_is_word ?claw_is_word ?klaw_is_word ?llaw_note_of ?claw_note_of ?klaw_note_of ?llaw_rows_in ?claw_rows_in ?klaw_rows_in ?llaw_met ?claw_met ?klaw_met ?llaw_bent ?claw_bent ?klaw_bent ?llaw ?claw ?klaw ?llaw_draw ?claw_draw ?klaw_draw ?llaw_pot ?claw_pot ?klaw_pot ?linit ?cinit ?kinit ?lslen ?cslen ?kslen ?lsflds ?csflds ?ksflds ?lstext ?cstext ?kstext ?lsnames ?csnames ?ksnames ?lseq ?cseq ?kseq ?lsread ?csread ?ksread ?iinit ?islen ?isflds ?istext ?isnames ?iseq ?zlen ?zisinstance ?zstr ?zint ?zbool ?zlist ?ztuple ?zdict ?zall ?zany ?zmax ?zmin ?zsum ?zabs ?zdivmod ?zrange ?zrepr ?zzip ?zenumerate ?zsorted ?y1 ?y2 ?y3 ?y4 ?y5 ?g1 ?g2 ?g3 ?g4 ?g5 ?g6 ?g7 ?g8 ?g9 ?g10 ?g11 ?gI1 ?gI2 ?gI3 ?gI4 ?gI5 ?a_InvalidCommand ?a_InvalidSchema ?a_InvalidText ?a_InvalidVersion ?a_MergeError ?ka_InvalidText_InvalidSchema_InvalidVersion_InvalidCommand ?ki_InvalidText_MergeError ?no_InvalidText_line ?kn_str ?tn_InvalidText_InvalidSchema ?tn_InvalidCommand_InvalidSchema ?tE_InvalidSchema ?tE_InvalidText ?x1_InvalidText ?x2_InvalidText ?x3_InvalidText ?x4_InvalidText ?x5_InvalidText ?x8_InvalidText ?x6 ?x7 ?akept ?lkept ?ckept ?kkept ?tkept ?zsuper ?ezopq ?e1_InvalidText ?e2_InvalidText ?e3_InvalidText ?e4_InvalidText ?e5_InvalidText ?e6_InvalidText ?e7_InvalidText ?e8_InvalidText ?e9_InvalidText ?eA_InvalidText ?eB_InvalidText ?eC_InvalidText ?eD_InvalidText ?eE_InvalidText ?eF_InvalidText ?eG_InvalidText ?eH_InvalidText ?eI_InvalidText ?eJ_InvalidText ?e1_InvalidSchema ?e2_InvalidSchema ?e3_InvalidSchema ?e4_InvalidSchema ?e5_InvalidSchema ?e6_InvalidSchema ?e7_InvalidSchema ?e8_InvalidSchema ?e9_InvalidSchema ?eA_InvalidSchema ?eB_InvalidSchema ?eC_InvalidSchema ?eD_InvalidSchema ?eE_InvalidSchema ?eF_InvalidSchema ?eG_InvalidSchema ?eH_InvalidSchema ?eI_InvalidSchema ?eJ_InvalidSchema ?eK_InvalidSchema
    (case ais_name => first | k_is | kit_is | ks_is | kts_exm | rfl | decide +kernel)
    (case ais_field => first | k_is | kit_is | ks_is | kts_exm | rfl | decide +kernel)
    (case afield_problem => first | k_is | kit_is | ks_is | kts_exm | rfl | decide +kernel)
    (case alaw_word => first | k_is | kit_is | ks_is | kts_exm | rfl | decide +kernel)
    (case alaw_words => first | k_is | kit_is | ks_is | kts_exm | rfl | decide +kernel)
    (case alaw_mixed => first | k_is | kit_is | ks_is | kts_exm | rfl | decide +kernel)
    (case alaw_fields => first | k_is | kit_is | ks_is | kts_exm | rfl | decide +kernel)
    (case alaw_is_word => first | k_is | kit_is | ks_is | kts_exm | rfl | decide +kernel)
    (case alaw_note_of => first | k_is | kit_is | ks_is | kts_exm | rfl | decide +kernel)
    (case alaw_rows_in => first | k_is | kit_is | ks_is | kts_exm | rfl | decide +kernel)
    (case alaw_met => first | k_is | kit_is | ks_is | kts_exm | rfl | decide +kernel)
    (case alaw_bent => first | k_is | kit_is | ks_is | kts_exm | rfl | decide +kernel)
    (case alaw => k_is)
    (case alaw_draw => first | k_is | kit_is | ks_is | kts_exm | rfl | decide +kernel)
    (case alaw_pot => first | k_is | kit_is | ks_is | kts_exm | rfl | decide +kernel)
    (case aC => k_is)
    (case ainit => k_is)
    (case aslen => k_is)
    (case asflds => k_is)
    (case astext => k_is)
    (case asnames => k_is)
    (case aseq => k_is)
    (case asread => k_is)
    (case rsread => k_is)
    (case nsread => k_is)
    (case lis_name => first | k_is | kit_is | ks_is | kts_exm | rfl | decide +kernel)
    (case cis_name => first | k_is | kit_is | ks_is | kts_exm | rfl | decide +kernel)
    (case kis_name => first | k_is | kit_is | ks_is | kts_exm | rfl | decide +kernel)
    (case lis_field => first | k_is | kit_is | ks_is | kts_exm | rfl | decide +kernel)
    (case cis_field => first | k_is | kit_is | ks_is | kts_exm | rfl | decide +kernel)
    (case kis_field => first | k_is | kit_is | ks_is | kts_exm | rfl | decide +kernel)
    (case lfield_problem => first | k_is | kit_is | ks_is | kts_exm | rfl | decide +kernel)
    (case cfield_problem => first | k_is | kit_is | ks_is | kts_exm | rfl | decide +kernel)
    (case kfield_problem => first | k_is | kit_is | ks_is | kts_exm | rfl | decide +kernel)
    (case llaw_word => first | k_is | kit_is | ks_is | kts_exm | rfl | decide +kernel)
    (case claw_word => first | k_is | kit_is | ks_is | kts_exm | rfl | decide +kernel)
    (case klaw_word => first | k_is | kit_is | ks_is | kts_exm | rfl | decide +kernel)
    (case llaw_words => first | k_is | kit_is | ks_is | kts_exm | rfl | decide +kernel)
    (case claw_words => first | k_is | kit_is | ks_is | kts_exm | rfl | decide +kernel)
    (case klaw_words => first | k_is | kit_is | ks_is | kts_exm | rfl | decide +kernel)
    (case llaw_mixed => first | k_is | kit_is | ks_is | kts_exm | rfl | decide +kernel)
    (case claw_mixed => first | k_is | kit_is | ks_is | kts_exm | rfl | decide +kernel)
    (case klaw_mixed => first | k_is | kit_is | ks_is | kts_exm | rfl | decide +kernel)
    (case llaw_fields => first | k_is | kit_is | ks_is | kts_exm | rfl | decide +kernel)
    (case claw_fields => first | k_is | kit_is | ks_is | kts_exm | rfl | decide +kernel)
    (case klaw_fields => first | k_is | kit_is | ks_is | kts_exm | rfl | decide +kernel)
    (case llaw_is_word => first | k_is | kit_is | ks_is | kts_exm | rfl | decide +kernel)
    (case claw_is_word => first | k_is | kit_is | ks_is | kts_exm | rfl | decide +kernel)
    (case klaw_is_word => first | k_is | kit_is | ks_is | kts_exm | rfl | decide +kernel)
    (case llaw_note_of => first | k_is | kit_is | ks_is | kts_exm | rfl | decide +kernel)
    (case claw_note_of => first | k_is | kit_is | ks_is | kts_exm | rfl | decide +kernel)
    (case klaw_note_of => first | k_is | kit_is | ks_is | kts_exm | rfl | decide +kernel)
    (case llaw_rows_in => first | k_is | kit_is | ks_is | kts_exm | rfl | decide +kernel)
    (case claw_rows_in => first | k_is | kit_is | ks_is | kts_exm | rfl | decide +kernel)
    (case klaw_rows_in => first | k_is | kit_is | ks_is | kts_exm | rfl | decide +kernel)
    (case llaw_met => first | k_is | kit_is | ks_is | kts_exm | rfl | decide +kernel)
    (case claw_met => first | k_is | kit_is | ks_is | kts_exm | rfl | decide +kernel)
    (case klaw_met => first | k_is | kit_is | ks_is | kts_exm | rfl | decide +kernel)
    (case llaw_bent => first | k_is | kit_is | ks_is | kts_exm | rfl | decide +kernel)
    (case claw_bent => first | k_is | kit_is | ks_is | kts_exm | rfl | decide +kernel)
    (case klaw_bent => first | k_is | kit_is | ks_is | kts_exm | rfl | decide +kernel)
    (case llaw => k_is)
    (case claw => k_is)
    (case klaw => k_is)
    (case llaw_draw => first | k_is | kit_is | ks_is | kts_exm | rfl | decide +kernel)
    (case claw_draw => first | k_is | kit_is | ks_is | kts_exm | rfl | decide +kernel)
    (case klaw_draw => first | k_is | kit_is | ks_is | kts_exm | rfl | decide +kernel)
    (case llaw_pot => first | k_is | kit_is | ks_is | kts_exm | rfl | decide +kernel)
    (case claw_pot => first | k_is | kit_is | ks_is | kts_exm | rfl | decide +kernel)
    (case klaw_pot => first | k_is | kit_is | ks_is | kts_exm | rfl | decide +kernel)
    (case linit => k_is)
    (case cinit => k_is)
    (case kinit => k_is)
    (case lslen => k_is)
    (case cslen => k_is)
    (case kslen => k_is)
    (case lsflds => k_is)
    (case csflds => k_is)
    (case ksflds => k_is)
    (case lstext => k_is)
    (case cstext => k_is)
    (case kstext => k_is)
    (case lsnames => k_is)
    (case csnames => k_is)
    (case ksnames => k_is)
    (case lseq => k_is)
    (case cseq => k_is)
    (case kseq => k_is)
    (case lsread => k_is)
    (case csread => k_is)
    (case ksread => k_is)
    (case iinit => k_is)
    (case islen => k_is)
    (case isflds => k_is)
    (case istext => k_is)
    (case isnames => k_is)
    (case iseq => k_is)
    (case zlen => k_is)
    (case zisinstance => k_is)
    (case zstr => k_is)
    (case zint => k_is)
    (case zbool => k_is)
    (case zlist => k_is)
    (case ztuple => k_is)
    (case zdict => k_is)
    (case zall => k_is)
    (case zany => k_is)
    (case zmax => k_is)
    (case zmin => k_is)
    (case zsum => k_is)
    (case zabs => k_is)
    (case zdivmod => k_is)
    (case zrange => k_is)
    (case zrepr => k_is)
    (case zzip => k_is)
    (case zenumerate => k_is)
    (case zsorted => k_is)
    (case y1 => k_is)
    (case y2 => k_is)
    (case y3 => k_is)
    (case y4 => k_is)
    (case y5 => k_is)
    (case g1 => k_is)
    (case g2 => k_is)
    (case g3 => k_is)
    (case g4 => k_is)
    (case g5 => k_is)
    (case g6 => k_is)
    (case g7 => k_is)
    (case g8 => k_is)
    (case g9 => k_is)
    (case g10 => k_is)
    (case g11 => k_is)
    (case gI1 => k_is)
    (case gI2 => k_is)
    (case gI3 => k_is)
    (case gI4 => k_is)
    (case gI5 => first | k_is | kit_is)
    (case a_InvalidCommand => first | k_is | kit_is | ks_is | kts_exm | rfl | decide +kernel)
    (case a_InvalidSchema => first | k_is | kit_is | ks_is | kts_exm | rfl | decide +kernel)
    (case a_InvalidText => first | k_is | kit_is | ks_is | kts_exm | rfl | decide +kernel)
    (case a_InvalidVersion => first | k_is | kit_is | ks_is | kts_exm | rfl | decide +kernel)
    (case a_MergeError => first | k_is | kit_is | ks_is | kts_exm | rfl | decide +kernel)
    (case ka_InvalidText_InvalidSchema_InvalidVersion_InvalidCommand => first | k_is | kit_is | ks_is | kts_exm | rfl | decide +kernel)
    (case ki_InvalidText_MergeError => first | k_is | kit_is | ks_is | kts_exm | rfl | decide +kernel)
    (case no_InvalidText_line => first | k_is | kit_is | ks_is | kts_exm | rfl | decide +kernel)
    (case kn_str => first | k_is | kit_is | ks_is | kts_exm | rfl | decide +kernel)
    (case tn_InvalidText_InvalidSchema => first | k_is | kit_is | ks_is | kts_exm | rfl | decide +kernel)
    (case tn_InvalidCommand_InvalidSchema => first | k_is | kit_is | ks_is | kts_exm | rfl | decide +kernel)
    (case tE_InvalidSchema => first | k_is | kit_is | ks_is | kts_exm | rfl | decide +kernel)
    (case tE_InvalidText => first | k_is | kit_is | ks_is | kts_exm | rfl | decide +kernel)
    (case x1_InvalidText => first | k_is | kit_is | ks_is | kts_exm | rfl | decide +kernel)
    (case x2_InvalidText => first | k_is | kit_is | ks_is | kts_exm | rfl | decide +kernel)
    (case x3_InvalidText => first | k_is | kit_is | ks_is | kts_exm | rfl | decide +kernel)
    (case x4_InvalidText => first | k_is | kit_is | ks_is | kts_exm | rfl | decide +kernel)
    (case x5_InvalidText => first | k_is | kit_is | ks_is | kts_exm | rfl | decide +kernel)
    (case x8_InvalidText => first | k_is | kit_is | ks_is | kts_exm | rfl | decide +kernel)
    (case x6 => k_is)
    (case x7 => k_is)
    (case akept => k_is)
    (case lkept => k_is)
    (case ckept => k_is)
    (case kkept => k_is)
    (case tkept => k_is)
    (case zsuper => k_is)
    (case ezopq => k_is)
    (case e1_InvalidText => first | k_is | kit_is | ks_is | kts_exm | rfl | decide +kernel)
    (case e2_InvalidText => first | k_is | kit_is | ks_is | kts_exm | rfl | decide +kernel)
    (case e3_InvalidText => first | k_is | kit_is | ks_is | kts_exm | rfl | decide +kernel)
    (case e4_InvalidText => first | k_is | kit_is | ks_is | kts_exm | rfl | decide +kernel)
    (case e5_InvalidText => first | k_is | kit_is | ks_is | kts_exm | rfl | decide +kernel)
    (case e6_InvalidText => first | k_is | kit_is | ks_is | kts_exm | rfl | decide +kernel)
    (case e7_InvalidText => first | k_is | kit_is | ks_is | kts_exm | rfl | decide +kernel)
    (case e8_InvalidText => first | k_is | kit_is | ks_is | kts_exm | rfl | decide +kernel)
    (case e9_InvalidText => first | k_is | kit_is | ks_is | kts_exm | rfl | decide +kernel)
    (case eA_InvalidText => first | k_is | kit_is | ks_is | kts_exm | rfl | decide +kernel)
    (case eB_InvalidText => first | k_is | kit_is | ks_is | kts_exm | rfl | decide +kernel)
    (case eC_InvalidText => first | k_is | kit_is | ks_is | kts_exm | rfl | decide +kernel)
    (case eD_InvalidText => first | k_is | kit_is | ks_is | kts_exm | rfl | decide +kernel)
    (case eE_InvalidText => first | k_is | kit_is | ks_is | kts_exm | rfl | decide +kernel)
    (case eF_InvalidText => first | k_is | kit_is | ks_is | kts_exm | rfl | decide +kernel)
    (case eG_InvalidText => first | k_is | kit_is | ks_is | kts_exm | rfl | decide +kernel)
    (case eH_InvalidText => first | k_is | kit_is | ks_is | kts_exm | rfl | decide +kernel)
    (case eI_InvalidText => first | k_is | kit_is | ks_is | kts_exm | rfl | decide +kernel)
    (case eJ_InvalidText => first | k_is | kit_is | ks_is | kts_exm | rfl | decide +kernel)
    (case e1_InvalidSchema => first | k_is | kit_is | ks_is | kts_exm | rfl | decide +kernel)
    (case e2_InvalidSchema => first | k_is | kit_is | ks_is | kts_exm | rfl | decide +kernel)
    (case e3_InvalidSchema => first | k_is | kit_is | ks_is | kts_exm | rfl | decide +kernel)
    (case e4_InvalidSchema => first | k_is | kit_is | ks_is | kts_exm | rfl | decide +kernel)
    (case e5_InvalidSchema => first | k_is | kit_is | ks_is | kts_exm | rfl | decide +kernel)
    (case e6_InvalidSchema => first | k_is | kit_is | ks_is | kts_exm | rfl | decide +kernel)
    (case e7_InvalidSchema => first | k_is | kit_is | ks_is | kts_exm | rfl | decide +kernel)
    (case e8_InvalidSchema => first | k_is | kit_is | ks_is | kts_exm | rfl | decide +kernel)
    (case e9_InvalidSchema => first | k_is | kit_is | ks_is | kts_exm | rfl | decide +kernel)
    (case eA_InvalidSchema => first | k_is | kit_is | ks_is | kts_exm | rfl | decide +kernel)
    (case eB_InvalidSchema => first | k_is | kit_is | ks_is | kts_exm | rfl | decide +kernel)
    (case eC_InvalidSchema => first | k_is | kit_is | ks_is | kts_exm | rfl | decide +kernel)
    (case eD_InvalidSchema => first | k_is | kit_is | ks_is | kts_exm | rfl | decide +kernel)
    (case eE_InvalidSchema => first | k_is | kit_is | ks_is | kts_exm | rfl | decide +kernel)
    (case eF_InvalidSchema => first | k_is | kit_is | ks_is | kts_exm | rfl | decide +kernel)
    (case eG_InvalidSchema => first | k_is | kit_is | ks_is | kts_exm | rfl | decide +kernel)
    (case eH_InvalidSchema => first | k_is | kit_is | ks_is | kts_exm | rfl | decide +kernel)
    (case eI_InvalidSchema => first | k_is | kit_is | ks_is | kts_exm | rfl | decide +kernel)
    (case eJ_InvalidSchema => first | k_is | kit_is | ks_is | kts_exm | rfl | decide +kernel)
    (case eK_InvalidSchema => first | k_is | kit_is | ks_is | kts_exm | rfl | decide +kernel)
