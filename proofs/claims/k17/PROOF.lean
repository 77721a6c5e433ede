import PyProof.Rows.All
import Wide.All
import OpenK.AllK
import Wide.FinOn
import HandS.ForMost
import HandS.IsInst
import HandS.Flow
import PyProof.ReprRoads
import PyProof.ZipIter
import KE.KItemsList
import HandS.ListItems
import KE.GoesMore
import KE.GoesEnum
import HandS.Walk
import HandS.ClsMeth
import HandS.TupAny
import KE.KExcSuper
import KE.KExcInit
import HandS.ExcInit
import HandS.Nested
import HandS.Words
import HandS.Defaults
import KE.KExcIs
import HandS.ExcIs
import HandS.ExcField
import HandS.WordsExc
import HandS.Evl
import HandS.Lambda
import HandS.Wide
import HandS.Deep
import HandS.WordsDict
import HandS.Text
import HandS.Style
import HandS.NoneIn
import HandS.Conv
import HandS.WideBits
import PyProof.EnumMake
import HandS.TryMany
import PyProof.RowDictHeap
import HandS.DictComp
import KE.KEqNest
import HandS.DeepEq
import PyProof.NeKinds
import HandS.StrMore
import HandS.FStr
import KE.IntTextText
import KE.KIntText
import HandS.IterVal
import HandS.OwnEq
import KE.KStrOpen
import KE.RegKIsAll
import KE.RegKSuper
import KE.RegKTryMore
import PySem.Challenge.RW_mergereach_k17_whole_version_texts
set_option Elab.async false
set_option linter.all false
set_option maxRecDepth 100000
namespace Kx
open PySem PySem.Spec PyProof.Rows L2
structure FnG (P : Program) (w : World) (K : PySem.W.Frag) (mg : Str → Option Value) (base : Heap)
    (CX : CXT) (k : Nat) (f : Addr) (fd : FuncData) (ps : List Str) (sp : Sp) : Prop where
  many : ∀ vs H Q E, sp vs H Q E → vs.length = ps.length
  goes : ∀ (A : Around) (outer : List Env) (s : Shared) (H : Hp) (args : Args) (us : List Value) (vs : List V) (Q : VK) (E : XK),
    A.guards = some [] → Room k A → Env0 P w K mg base A outer s H →
    BindsTo s fd args (ps.zip us) → Vals vs us → sp vs H Q E → codeAny (model P w) A (.call (.ref f) args) (CR CX outer P w H s Q E) s
section
variable {K : PySem.W.Frag} {mg : Str → Option Value} {P : Program} {base : Heap} {w : World}
theorem FnG.of {CX : CXT} {k : Nat} {f : Addr} {fd : FuncData} {ps : List Str} {sp : Sp}
    (F : FnOk P w K mg base CX k f fd ps sp) : FnG P w K mg base CX k f fd ps sp :=
  ⟨F.len, fun A outer s H args us vs Q E _ => F.run A outer s H args us vs Q E⟩
/-- a def's body keeps its promise, the guards known -/
theorem fnG_of {CX : CXT} {k : Nat} {f : Addr} {nm qual : Str} {prs : Arguments} {bd : List Stmt} {sc : Scope}
    {dV kV doc pm cdv ct oc : Value} {an od : Option Addr} {osl : Array (Option Value)} {N ps : List Str} {sp : Sp}
    (lk : K.lookup f = some ⟨oc, od, .func (PySem.W.fnOf nm qual prs bd sc dV kV doc pm an cdv ct), osl⟩)
    (cin : PySem.W.codeIn K cdv qual = true) (S : FnScope N ps sc)
    (many : ∀ vs H Q E, sp vs H Q E → vs.length = ps.length)
    (body : ∀ (A : Around) (outer : List Env) (s : Shared) (H : Hp) (vs : List V) (Q : VK) (E : XK),
      A.guards = some [] → Room k (A.deeper (envOfC qual sc s.heap.objs.size f cdv)) → sp vs H Q E →
      ∃ t, PSs (cxOf CX P w K mg base N qual sc f cdv A outer s H E) bd t ∧
        t { nx := fun _ H' => Q .non H', rt := Q } (start N vs) H) :
    FnG P w K mg base CX (k + 1) f (PySem.W.fnOf nm qual prs bd sc dV kV doc pm an cdv ct) ps sp := by
  refine ⟨many, fun A outer s H args us vs Q E gd room en bt rel want => ?_⟩
  have ln := many _ _ _ _ want
  have kin : K.In s.heap := en.mod.kin.keeps fun b o e => (en.bs b o e).1
  have nolim : s.heap.NoLimit := en.mod.nolimit.keeps fun b o e => (en.bs b o e).1
  have kinds : ∀ y ∈ ps.zip us, sc.names.lookup y.1 = some .local ∨
      (sc.names.lookup y.1 = some .cell ∧ ((cellsFrom (s.heap.objs.size + 1) sc.names []).lookup y.1).isSome = true) := by
    rintro ⟨n, v⟩ hy
    rcases S.par n (List.of_mem_zip hy).1 with z | z
    · exact .inl z
    · exact .inr ⟨z, PySem.W.cellsFrom_some _ _ _ (.inl z)⟩
  refine codeAny_call_function room.depth (kin _ _ lk) rfl S.co S.gen rfl (PySem.W.codeRec_of kin cin) (bt _ _ _ _ ?_)
  refine wpAny_newFunctionEnv_cells S.kind kinds fun env he s1 x => ?_
  subst he
  refine ⟨nolim.keeps x.toInCall.keep, codeAny_func ?_⟩
  obtain ⟨t, pt, pq⟩ := body A outer s H vs Q E gd (room.deeper _) want
  have I : Inv (cxOf CX P w K mg base N qual sc f cdv A outer s H E) [] (start N vs) H s1 := inv_start S room.hd en ln rel x
  refine wpAny_mono (pt.run [] s1 (start N vs) H _ I pq) (fun fl s' z => ?_) fun _ _ z => z
  cases fl with
  | ret u =>
    obtain ⟨v, σ', H', J, rv, q⟩ := z
    exact (⟨v, H', J.os, J.bare, J.base, J.hok, rv, q⟩ : CE outer P w H s Q u s')
  | next =>
    obtain ⟨σ', H', J, q⟩ := z
    exact (⟨V.non, H', J.os, J.bare, J.base, J.hok, rfl, q⟩ : CE outer P w H s Q Value.none s')
  | brk =>
    obtain ⟨_, _, _, no⟩ := z
    exact no.elim
  | cont =>
    obtain ⟨_, _, _, no⟩ := z
    exact no.elim
end
end Kx
set_option Elab.async false
set_option linter.all false
set_option maxRecDepth 100000
set_option maxHeartbeats 1000000
namespace Kz
open PySem
open PySem.Sem (wp)
/-- a zip object that has handed out the tuple at T -/
abbrev ZipO (h : Heap) (z TI TO : Addr) (f0 : Value) (f1 : Bool) : Prop :=
  h.get? z = some { cls := .type "zip", dict := none, data := .fields #[f0, .bool f1, .bool false, .ref TI, .ref TO], slots := #[] }
section
variable {E : Value → Shared → Prop} {s : Shared} {A : Around} {prog : Program} {w : World}
open Builtin.SmallTypes in
/-- one turn of a zip object that has handed out the tuple at T (which lives still): the first is asked, then the second, then a new pair is laid -/
theorem zip_turn {z TI TO i1 i2 T : Addr} {f1 : Bool} {oT : Obj} {Q : Fin → Shared → Prop} (hz : ZipO s.heap z TI TO (rawInt T) f1) (hT : s.heap.get? T = some oT) (hTI : IsPair s.heap TI (.ref i1) (.ref i2))
    (go : ∀ hA, ZipO hA z TI TO (rawInt T) true → Heap.SameBut z s.heap hA → wpAny (model prog w) A (nextOf (.ref i1)) (fun x s1 => wpAny (model prog w) A (nextOf (.ref i2)) (fun y s2 =>
      Q (.done (.ret (.ref s2.heap.objs.size))) { s2 with heap := s2.heap.push { cls := .type "tuple", data := .seq #[x, y] } }) E s1) E { s with heap := hA }) :
    wpAny (model prog w) A (Builtin.«zip.__next__» ⟨[Value.ref z], []⟩) Q E s := by
  have known : wpAny (model prog w) A (ownedTupleIsFree (.ref z)) (fun b t => b = false ∧ ∃ hA, t = { s with heap := hA } ∧ ZipO hA z TI TO (rawInt T) true ∧ Heap.SameBut z s.heap hA) E s := by
    refine (show wpAny _ _ (field (.ref z) 0 >>= _) _ _ _ from wpAny_bind (wpAny_field hz rfl rfl ?_))
    dsimp only
    refine (show wpAny _ _ (loadIfAlive ((T : Int)).toNat >>= _) _ _ _ from ?_)
    rw [Int.toNat_natCast]
    refine wpAny_bind (W.kdx_alive hT (show wpAny _ _ (field (.ref z) 1 >>= _) _ _ _ from wpAny_bind (wpAny_field hz rfl (x := .bool f1) rfl ?_)))
    cases f1 with
    | true => exact (show wpAny _ _ (pure false) _ _ _ from wpAny_pure ⟨rfl, s.heap, rfl, hz, rfl, fun _ _ => rfl⟩)
    | false => exact (show wpAny _ _ (setField (.ref z) 1 (.bool true) >>= _) _ _ _ from wpAny_bind (wpAny_setField_rec hz (by simp) fun hA zA same => wpAny_pure ⟨rfl, hA, rfl, zA, same⟩))
  refine (show wpAny _ _ (field (.ref z) 2 >>= _) _ _ _ from wpAny_bind (wpAny_field hz rfl (x := .bool false) rfl
    (show wpAny _ _ (field (.ref z) 3 >>= _) _ _ _ from wpAny_bind (wpAny_field hz rfl (x := .ref TI) rfl (wpAny_bind (wpAny_seqItems hTI rfl (wpAny_bind (wpAny_mono known (fun b t got => ?_) fun _ _ e => e))))))))
  obtain ⟨rfl, hA, rfl, zA, same⟩ := got
  refine (show wpAny _ _ (_ >>= _) _ _ _ from wpAny_bind ?_)
  first
  | rw [List.forIn_toArray, List.forIn_cons, List.forIn_cons, List.forIn_nil]
  | (rw [← Array.forIn_toList, List.toList_toArray, List.forIn_cons]; simp only [List.forIn_cons, List.forIn_nil, pure_bind])
  refine wpAny_bind (wpAny_bind (wpAny_holding (show wpAny _ _ (nextOf (.ref i1) >>= _) _ _ _ from wpAny_bind (wpAny_mono (go hA zA same) (fun x s1 more => wpAny_pure (wpAny_pure ?_)) fun _ _ e => e))))
  refine wpAny_bind (wpAny_bind (wpAny_holding (show wpAny _ _ (nextOf (.ref i2) >>= _) _ _ _ from wpAny_bind (wpAny_mono more (fun y s2 fin => wpAny_pure (wpAny_pure (wpAny_pure ?_))) fun _ _ e => e))))
  exact (show wpAny _ _ (newTuple [x, y] >>= _) _ _ _ from wpAny_bind (wpAny_newTuple (wpAny_pure fin)))
theorem zo_next_item {z TI TO i1 i2 l1 l2 T : Addr} {k1 k2 : Nat} {f1 : Bool} {oT : Obj} {xs ys : Array Value} {x y : Value} {Q : Value → Shared → Prop}
    (D : ZipApart z TI TO i1 i2 l1 l2) (hz : ZipO s.heap z TI TO (rawInt T) f1) (hT : s.heap.get? T = some oT) (hTI : IsPair s.heap TI (.ref i1) (.ref i2)) (it1 : s.heap.IsListIter i1 l1 k1) (it2 : s.heap.IsListIter i2 l2 k2)
    (sq1 : s.heap.IsList l1 xs) (sq2 : s.heap.IsList l2 ys) (ex : xs[k1]? = some x) (ey : ys[k2]? = some y)
    (fin : ∀ hC, ZipO hC z TI TO (rawInt T) true → hC.IsListIter i1 l1 (k1 + 1) → hC.IsListIter i2 l2 (k2 + 1) → IsPair hC s.heap.objs.size x y →
      (∀ b ob, b ≠ z → b ≠ i1 → b ≠ i2 → s.heap.get? b = some ob → hC.get? b = some ob) → Q (.ref s.heap.objs.size) { s with heap := hC }) :
    wpAny (model prog w) A (Builtin.«zip.__next__» ⟨[.ref z], []⟩) (fun r t => ∃ v, r = .done (.ret v) ∧ Q v t) E s := by
  refine zip_turn hz hT hTI fun hA zA same => wpAny_nextOf_list_item (it1.extBut same.extBut D.i1z) (sq1.extBut same.extBut D.l1z) ex fun hB b1 sB => ?_
  refine wpAny_nextOf_list_item ((it2.extBut same.extBut D.i2z).extBut sB.extBut D.i12.symm) ((sq2.extBut same.extBut D.l2z).extBut sB.extBut D.l2i1) ey fun hC c2 sC => ⟨_, rfl, ?_⟩
  have size : hC.objs.size = s.heap.objs.size := sC.1.trans (sB.1.trans same.1)
  have pair : IsPair (hC.push { cls := .type "tuple", data := .seq #[x, y] }) hC.objs.size x y := Heap.get?_push_size _ rfl
  have up : ∀ {b : Addr} {ob : Obj}, hC.get? b = some ob → (hC.push { cls := .type "tuple", data := .seq #[x, y] }).get? b = some ob := fun e => Heap.get?_push_of_some _ e
  show Q (.ref hC.objs.size) _
  rw [size] at pair ⊢
  exact fin _ (up (sC.extBut _ _ D.i2z.symm (sB.extBut _ _ D.i1z.symm zA))) ((b1.extBut sC.extBut D.i12).at fun _ e => up e) (c2.at fun _ e => up e) pair fun b ob n1 n2 n3 e => up (sC.extBut _ _ n3 (sB.extBut _ _ n2 (same.extBut _ _ n1 e)))
theorem zo_next_end {z TI TO i1 i2 l1 l2 T : Addr} {k1 k2 : Nat} {f1 : Bool} {oT : Obj} {xs ys : Array Value} {Q : Fin → Shared → Prop} (calm : A.handled = none) (D : ZipApart z TI TO i1 i2 l1 l2) (hz : ZipO s.heap z TI TO (rawInt T) f1)
    (hT : s.heap.get? T = some oT) (hTI : IsPair s.heap TI (.ref i1) (.ref i2)) (it1 : s.heap.IsListIter i1 l1 k1) (it2 : s.heap.IsListIter i2 l2 k2) (sq1 : s.heap.IsList l1 xs) (sq2 : s.heap.IsList l2 ys) (stop : xs[k1]? = none ∨ ys[k2]? = none)
    (out : ∀ hC e, (∀ b ob, b ≠ z → b ≠ i1 → b ≠ i2 → s.heap.get? b = some ob → hC.get? b = some ob) → (∃ ob, hC.get? e = some ob ∧ ob.cls = .type "StopIteration") → E (.ref e) { s with heap := hC }) :
    wpAny (model prog w) A (Builtin.«zip.__next__» ⟨[Value.ref z], []⟩) Q E s := by
  refine zip_turn hz hT hTI fun hA zA same => ?_
  have a1 := it1.extBut same.extBut D.i1z
  have q1 := sq1.extBut same.extBut D.l1z
  match ex : xs[k1]? with
  | none => exact wpAny_nextOf_list_end calm a1 q1 ex fun hB e sB he => out hB e (fun b ob n1 n2 _ q => sB _ _ n2 (same.extBut _ _ n1 q)) he
  | some x =>
    have ey : ys[k2]? = none := stop.resolve_left fun q => by rw [ex] at q; cases q
    refine wpAny_nextOf_list_item a1 q1 ex fun hB b1 sB => ?_
    exact wpAny_nextOf_list_end calm ((it2.extBut same.extBut D.i2z).extBut sB.extBut D.i12.symm) ((sq2.extBut same.extBut D.l2z).extBut sB.extBut D.l2i1) ey fun hC e sC he => out hC e (fun b ob n1 n2 n3 q => sC _ _ n3 (sB.extBut _ _ n2 (same.extBut _ _ n1 q))) he
/-- the zip object ahead of its i-th turn, where what it hands out is kept -/
def ZSt (h : Heap) (z TI TO i1 i2 l1 l2 S : Addr) (i : Nat) : Prop :=
  IsPair h TI (.ref i1) (.ref i2) ∧ h.IsListIter i1 l1 i ∧ h.IsListIter i2 l2 i ∧
    ((IsZip h z TI TO .none ∧ ∃ a b, IsPair h TO a b) ∨
      ∃ (T : Addr) (f1 : Bool) (oT : Obj), ZipO h z TI TO (rawInt T) f1 ∧ h.get? T = some oT ∧ T ≠ z ∧ T ≠ i1 ∧ T ≠ i2 ∧ T ≠ S)
theorem ZSt.stays {h h' : Heap} {z TI TO i1 i2 l1 l2 S : Addr} {i : Nat} (st : ZSt h z TI TO i1 i2 l1 l2 S i) (k : ∀ b o, b ≠ S → h.get? b = some o → h'.get? b = some o)
    (zS : z ≠ S) (tS : TI ≠ S) (oS : TO ≠ S) (s1 : i1 ≠ S) (s2 : i2 ≠ S) : ZSt h' z TI TO i1 i2 l1 l2 S i := by
  obtain ⟨a, b, c, d⟩ := st
  refine ⟨k _ _ tS a, b.at fun o e => k _ _ s1 e, c.at fun o e => k _ _ s2 e, ?_⟩
  rcases d with ⟨d, x, y, e⟩ | ⟨T, f1, oT, d, e, n1, n2, n3, n4⟩
  · exact .inl ⟨k _ _ zS d, x, y, k _ _ oS e⟩
  · exact .inr ⟨T, f1, oT, k _ _ zS d, k _ _ n4 e, n1, n2, n3, n4⟩
theorem zs_item {z TI TO i1 i2 l1 l2 S : Addr} {i : Nat} {xs ys : Array Value} {x y : Value} {Q : Option Value → Shared → Prop}
    (D : ZipApart z TI TO i1 i2 l1 l2) (st : ZSt s.heap z TI TO i1 i2 l1 l2 S i) (hl1 : s.heap.IsList l1 xs) (hl2 : s.heap.IsList l2 ys) (hx : xs[i]? = some x) (hy : ys[i]? = some y)
    (hS : S < s.heap.objs.size)
    (hQ : ∀ h', ZSt h' z TI TO i1 i2 l1 l2 S (i + 1) → IsPair h' s.heap.objs.size x y →
      (∀ b ob, b ≠ z → b ≠ TO → b ≠ i1 → b ≠ i2 → s.heap.get? b = some ob → h'.get? b = some ob) → Q (some (.ref s.heap.objs.size)) { s with heap := h' }) : wpAny (model prog w) A (pyNext (.ref z)) Q E s := by
  obtain ⟨hTI, h1, h2, d⟩ := st
  have lt : ∀ {c : Addr} {o : Obj}, s.heap.get? c = some o → s.heap.objs.size ≠ c := fun e => Nat.ne_of_gt (Heap.lt_size e)
  have n1 : s.heap.objs.size ≠ i1 := by
    obtain ⟨_, e, _⟩ := id h1
    exact lt e
  have n2 : s.heap.objs.size ≠ i2 := by
    obtain ⟨_, e, _⟩ := id h2
    exact lt e
  rcases d with ⟨hz, a, b, hTO⟩ | ⟨T, f1, oT, hz, hT, m1, m2, m3, m4⟩
  · refine wpAny_pyNext_zip_item D hz hTI hTO h1 h2 hl1 hl2 hx hy fun h' z' to' i1' i2' pr sz k => ?_
    exact hQ h' ⟨k _ _ D.TIz D.TITO D.TIi1 D.TIi2 hTI, i1', i2', .inr ⟨s.heap.objs.size, false, _, z', pr, lt hz, n1, n2, Nat.ne_of_gt hS⟩⟩ pr k
  · have ty : s.TypeIs (.ref z) "zip" := ⟨_, hz, rfl⟩
    unfold pyNext
    refine wpAny_bind (wpAny_attempt (wpAny_callSpecial?_slot (name := Str.ofString "__next__") ty F.slot_zip_next (wpAny_call_entry F.slot_zip_next ty F.entry_zip_next ?_ (F.args_zip_next_1 _))))
    refine zo_next_item D hz hT hTI h1 h2 hl1 hl2 hx hy fun h' z' i1' i2' pr k => wpAny_pure ?_
    exact hQ h' ⟨k _ _ D.TIz D.TIi1 D.TIi2 hTI, i1', i2', .inr ⟨T, true, _, z', k _ _ m1 m2 m3 hT, m1, m2, m3, m4⟩⟩ pr fun c o q1 _ q3 q4 e => k c o q1 q3 q4 e
theorem zs_end {z TI TO i1 i2 l1 l2 S : Addr} {i : Nat} {xs ys : Array Value} {Q : Option Value → Shared → Prop} (hh : A.handled = none)
    (D : ZipApart z TI TO i1 i2 l1 l2) (st : ZSt s.heap z TI TO i1 i2 l1 l2 S i) (hl1 : s.heap.IsList l1 xs) (hl2 : s.heap.IsList l2 ys) (stop : xs[i]? = none ∨ ys[i]? = none)
    (hQ : ∀ h', (∀ b ob, b ≠ z → b ≠ TO → b ≠ i1 → b ≠ i2 → s.heap.get? b = some ob → h'.get? b = some ob) → Q none { s with heap := h' }) : wpAny (model prog w) A (pyNext (.ref z)) Q E s := by
  obtain ⟨hTI, h1, h2, d⟩ := st
  rcases d with ⟨hz, a, b, hTO⟩ | ⟨T, f1, oT, hz, hT, m1, m2, m3, m4⟩
  · exact wpAny_pyNext_zip_end hh D hz hTI hTO h1 h2 hl1 hl2 stop hQ
  · have ty : s.TypeIs (.ref z) "zip" := ⟨_, hz, rfl⟩
    unfold pyNext
    refine wpAny_bind (wpAny_attempt (wpAny_callSpecial?_slot (name := Str.ofString "__next__") ty F.slot_zip_next (wpAny_call_entry F.slot_zip_next ty F.entry_zip_next ?_ (F.args_zip_next_1 _))))
    refine zo_next_end hh D hz hT hTI h1 h2 hl1 hl2 stop fun h' e k he => ?_
    exact wpAny_bind (wpAny_isInstance (T := "StopIteration") (b := true) he isSubtype_stop (wpAny_pure (hQ _ fun c o q1 _ q3 q4 e => k c o q1 q3 q4 e)))
end
/-- the pairs that were made, above lo, one behind the other -/
structure ZG (xs ys : Array Value) (lo : Addr) (h : Heap) (as : List Addr) : Prop where
  rise : as.Pairwise (· < ·)
  above : ∀ a ∈ as, lo < a
  pairs : ∀ (j : Nat) (a : Addr), as[j]? = some a → ∃ x y, xs[j]? = some x ∧ ys[j]? = some y ∧ IsPair h a x y
theorem ZG.there {xs ys : Array Value} {lo : Addr} {h : Heap} {as : List Addr} (g : ZG xs ys lo h as) {a : Addr} (ha : a ∈ as) : a < h.objs.size := by
  obtain ⟨j, at_j⟩ := List.mem_iff_getElem?.mp ha
  obtain ⟨_, _, _, _, e⟩ := g.pairs j a at_j
  exact Heap.lt_size e
/-- list.extend's loop, entered -/
theorem extend_in {prog : Program} {w : World} {A : Around} {R : Result → Shared → Prop} {s : Shared} {S z : Addr} {res : Value}
    (h : wpAny (model prog w) A.in1 (Builtin.«list.extend.loop» ⟨[.ref S, .ref z, res], []⟩) (fun r t => match r with | .done f => R (.ok f) t | .again c => c.quiet = true ∧ codeAny (model prog w) A c R t) (fun e t => R (.error e) t) s) :
    codeAny (model prog w) A (.builtin "list.extend.loop" ⟨[.ref S, .ref z, res], []⟩) R s :=
  codeAny_builtin PySem.F.entry_extend_loop ((Around.under_plainId PySem.F.plain_extend_loop _).symm ▸ h)
section
variable {prog : Program} {w : World} {A : Around} {s : Shared} {R : Result → Shared → Prop} {xs ys : Array Value}
theorem zl_loop {z TI TO i1 i2 l1 l2 S : Addr} {n : Nat} (hn : n = min xs.size ys.size) (hh : A.handled = none) (D : ZipApart z TI TO i1 i2 l1 l2)
    (zS : z < S) (tS : TI < S) (oS : TO < S) (s1 : i1 < S) (s2 : i2 < S) (l1S : l1 < S) (l2S : l2 < S) (small : n ≤ sizeLine) (res : Value) {h₁ : Heap}
    (hR : ∀ h' tk acc c as, (∀ b o, b ≠ S → b ≠ z → b ≠ TO → b ≠ i1 → b ≠ i2 → h₁.get? b = some o → h'.get? b = some o) →
      h'.get? S = some { cls := .type "list", dict := none, data := .seq acc c, slots := #[] } → as.length = n → ZG xs ys S h' as → acc.toList = as.map Value.ref → R (.ok (.ret res)) { s with heap := h', toks := tk }) :
    ∀ (k i : Nat) (h : Heap) (tk c : Nat) (acc : Array Value) (as : List Addr), n - i = k → i ≤ n → ZSt h z TI TO i1 i2 l1 l2 S i → h.IsList l1 xs → h.IsList l2 ys →
      (∀ b o, b ≠ S → b ≠ z → b ≠ TO → b ≠ i1 → b ≠ i2 → h₁.get? b = some o → h.get? b = some o) →
      h.get? S = some { cls := .type "list", dict := none, data := .seq acc c, slots := #[] } → acc.toList = as.map Value.ref → as.length = i → ZG xs ys S h as →
      codeAny (model prog w) A (.builtin "list.extend.loop" ⟨[.ref S, .ref z, res], []⟩) R { s with heap := h, toks := tk } := by
  intro k
  induction k with
  | zero =>
    intro i h tk c acc as hk hi st L1 L2 keep hS hacc hal G
    have hin : i = n := by omega
    refine extend_in ?_
    have stop : xs[i]? = none ∨ ys[i]? = none := by
      rcases Nat.le_total xs.size ys.size with q | q
      · exact .inl (Array.getElem?_eq_none (by rw [hin, hn, Nat.min_eq_left q]; exact Nat.le_refl _))
      · exact .inr (Array.getElem?_eq_none (by rw [hin, hn, Nat.min_eq_right q]; exact Nat.le_refl _))
    refine wpAny_bind (zs_end (s := { s with heap := h, toks := tk }) (A := A.in1) hh D st L1 L2 stop fun h' he => ?_)
    refine wpAny_pure (hR h' tk acc c as (fun b o q0 q1 q2 q3 q4 e => he b o q1 q2 q3 q4 (keep b o q0 q1 q2 q3 q4 e)) (he S _ (Nat.ne_of_gt zS) (Nat.ne_of_gt oS) (Nat.ne_of_gt s1) (Nat.ne_of_gt s2) hS) (by omega) ⟨G.rise, G.above, fun j a hj => ?_⟩ hacc)
    obtain ⟨x, y, e1, e2, e3⟩ := G.pairs j a hj
    have up := G.above a (List.mem_of_getElem? hj)
    exact ⟨x, y, e1, e2, he a _ (Nat.ne_of_gt (Nat.lt_trans zS up)) (Nat.ne_of_gt (Nat.lt_trans oS up)) (Nat.ne_of_gt (Nat.lt_trans s1 up)) (Nat.ne_of_gt (Nat.lt_trans s2 up)) e3⟩
  | succ k ih =>
    intro i h tk c acc as hk hi st L1 L2 keep hS hacc hal G
    have hlt : i < n := by omega
    have hix : i < xs.size := by
      have := Nat.min_le_left xs.size ys.size
      omega
    have hiy : i < ys.size := by
      have := Nat.min_le_right xs.size ys.size
      omega
    have hsz : acc.size = i := Eq.trans (by rw [← Array.length_toList, hacc, List.length_map]) hal
    have hSl : S < _ := Heap.lt_size hS
    refine extend_in ?_
    refine wpAny_bind (zs_item (s := { s with heap := h, toks := tk }) D st L1 L2 (Array.getElem?_eq_getElem hix) (Array.getElem?_eq_getElem hiy) hSl fun h' st' pr hkp => ?_)
    dsimp only at pr hkp ⊢
    have hS' := hkp S _ (Nat.ne_of_gt zS) (Nat.ne_of_gt oS) (Nat.ne_of_gt s1) (Nat.ne_of_gt s2) hS
    have up : ∀ c ob, c ≠ S → h'.get? c = some ob → (h'.update S (Obj.mapSeq (·.push (Value.ref h.objs.size)))).get? c = some ob := fun _ _ ne e => (Heap.get?_update_other _ _ ne.symm).trans e
    have apart : ∀ {a : Addr}, S < a → a ≠ z ∧ a ≠ TO ∧ a ≠ i1 ∧ a ≠ i2 := fun q =>
      ⟨Nat.ne_of_gt (Nat.lt_trans zS q), Nat.ne_of_gt (Nat.lt_trans oS q), Nat.ne_of_gt (Nat.lt_trans s1 q), Nat.ne_of_gt (Nat.lt_trans s2 q)⟩
    refine (show wpAny _ A.in1 (updateSeq S (·.push (Value.ref h.objs.size)) >>= _) _ _ _ from wpAny_bind ?_)
    refine wpAny_updateSeq hS' rfl (wpAny_pure ⟨plainId_quiet PySem.F.plain_extend_loop _, ih (i + 1) _ tk _ (acc.push (Value.ref h.objs.size)) (as ++ [h.objs.size]) (by omega) hlt
      (st'.stays up (Nat.ne_of_lt zS) (Nat.ne_of_lt tS) (Nat.ne_of_lt oS) (Nat.ne_of_lt s1) (Nat.ne_of_lt s2))
      (L1.at fun o e => up l1 o (Nat.ne_of_lt l1S) (hkp l1 o D.l1z D.l1TO D.l1i1 D.l1i2 e)) (L2.at fun o e => up l2 o (Nat.ne_of_lt l2S) (hkp l2 o D.l2z D.l2TO D.l2i1 D.l2i2 e))
      (fun b o q0 q1 q2 q3 q4 e => up b o q0 (hkp b o q1 q2 q3 q4 (keep b o q0 q1 q2 q3 q4 e))) (Heap.get?_update_self _ hS' rfl) (by rw [Array.toList_push, hacc, List.map_append]; rfl) (by rw [List.length_append, hal]; rfl) ⟨?_, ?_, ?_⟩⟩)
      (by rw [hsz]; omega) (by show (acc.push (Value.ref h.objs.size)).size ≤ sizeLine + 1; rw [Array.size_push, hsz]; omega)
    · refine List.pairwise_append.mpr ⟨G.rise, List.pairwise_singleton _ _, fun a ha b hb => ?_⟩
      rw [List.mem_singleton.mp hb]
      exact G.there ha
    · intro a ha
      exact (List.mem_append.mp ha).elim (G.above a) fun q => (List.mem_singleton.mp q) ▸ hSl
    · intro j b hj
      rcases Nat.lt_trichotomy j as.length with lt | h1 | gt
      · rw [List.getElem?_append_left lt] at hj
        obtain ⟨x', y', e1, e2, e3⟩ := G.pairs j b hj
        have hb := G.above b (List.mem_of_getElem? hj)
        obtain ⟨q1, q2, q3, q4⟩ := apart hb
        exact ⟨x', y', e1, e2, up b _ (Nat.ne_of_gt hb) (hkp b _ q1 q2 q3 q4 e3)⟩
      · subst h1
        obtain rfl : _ = b := Option.some.inj (by simpa using hj)
        exact ⟨_, _, by rw [hal]; exact Array.getElem?_eq_getElem hix, by rw [hal]; exact Array.getElem?_eq_getElem hiy, up _ _ (Nat.ne_of_gt hSl) pr⟩
      · rw [List.getElem?_eq_none (by rw [List.length_append, List.length_singleton]; omega)] at hj
        cases hj
end
end Kz
set_option Elab.async false
set_option linter.all false
set_option maxRecDepth 100000
set_option maxHeartbeats 1000000
namespace Kz
open PySem
open PySem.Sem (wp)
theorem noLen : typeLookup (.type "zip") "__len__" = pure none := by rw [typeLookup_type, builtinLookup_eq_fast]; kernel_rfl
theorem noHint : typeLookup (.type "zip") "__length_hint__" = pure none := by rw [typeLookup_type, builtinLookup_eq_fast]; kernel_rfl
section
variable {prog : Program} {w : World} {A : Around} {E : Value → Shared → Prop} {s : Shared} {xs ys : Array Value}
theorem zl_extend {R : Result → Shared → Prop} {z TI TO i1 i2 l1 l2 S : Addr} {n : Nat} (hn : n = min xs.size ys.size) (hh : A.handled = none) (D : ZipApart z TI TO i1 i2 l1 l2)
    (zS : z < S) (tS : TI < S) (oS : TO < S) (s1 : i1 < S) (s2 : i2 < S) (l1S : l1 < S) (l2S : l2 < S) (small : n ≤ sizeLine) (res : Value) (c₀ : Nat)
    (st : ZSt s.heap z TI TO i1 i2 l1 l2 S 0) (hz0 : ∃ f0, IsZip s.heap z TI TO f0) (L1 : s.heap.IsList l1 xs) (L2 : s.heap.IsList l2 ys) (hS : s.heap.get? S = some { cls := .type "list", data := .seq #[] c₀ })
    (hR : ∀ h' tk acc c as, (∀ b o, b ≠ S → b ≠ z → b ≠ TO → b ≠ i1 → b ≠ i2 → s.heap.get? b = some o → h'.get? b = some o) →
      h'.get? S = some { cls := .type "list", dict := none, data := .seq acc c, slots := #[] } → as.length = n → ZG xs ys S h' as → acc.toList = as.map Value.ref → R (.ok (.ret res)) { s with heap := h', toks := tk }) :
    wpAny (model prog w) A.in1 (Builtin.List.listExtendWith (.ref S) (.ref z) res)
      (fun r t => match r with | .done f => R (.ok f) t | .again c => c.quiet = true ∧ codeAny (model prog w) A c R t) (fun e t => R (.error e) t) s := by
  obtain ⟨f0, hz⟩ := hz0
  have ty : s.TypeIs (.ref z) "zip" := ⟨_, hz, rfl⟩
  rw [Builtin.List.listExtendWith]
  refine wpAny_bind (wpAny_typeOf ty ?_)
  have q1 : Builtin.List.listSameRef (.ref S) (.ref z) = false := by simp [Builtin.List.listSameRef, Nat.ne_of_gt zS]
  have q2 : (Value.type "zip" == Value.type "list") = false := by decide
  have q3 : (Value.type "zip" == Value.type "tuple") = false := by decide
  simp only [q1, q2, q3, Bool.or_false, Bool.false_eq_true, if_false]
  refine wpAny_bind (wpAny_pyIter_zip hz (wpAny_bind (wpAny_holding ?_)))
  rw [Builtin.List.listLengthHint]
  refine wpAny_bind (wpAny_specialOf ty noLen ?_)
  show wpAny _ A.in1 (specialOf (Value.ref z) (Str.ofString "__length_hint__") >>= _) _ _ _
  refine wpAny_bind (wpAny_specialOf ty noHint ?_)
  refine wpAny_pure ?_
  show wpAny _ A.in1 (rule "list.extend.makes-room" >>= fun _ => Builtin.List.listTouch (.ref S) >>= fun _ => again (.builtin "list.extend.loop" ⟨[.ref S, .ref z, res], []⟩)) _ _ _
  have longer := Heap.get?_update_self (Obj.mapSeq (·.push Value.none)) hS rfl
  have hS₃ := Heap.get?_update_self (Obj.mapSeq (·.pop)) longer rfl
  have oth : ∀ c ob, c ≠ S → s.heap.get? c = some ob → ((s.heap.update S (Obj.mapSeq (·.push Value.none))).update S (Obj.mapSeq (·.pop))).get? c = some ob := fun _ _ ne e =>
    (Heap.get?_update_other _ _ ne.symm).trans ((Heap.get?_update_other _ _ ne.symm).trans e)
  refine wpAny_bind (wpAny_rule (wpAny_bind (show wpAny _ A.in1 (updateSeq S (·.push .none) >>= fun _ => updateSeq S (·.pop)) _ _ _ from wpAny_bind (wpAny_updateSeq hS rfl (wpAny_updateSeq (hz := by seq_fits) longer rfl ?_)))))
  refine wpAny_pure ⟨plainId_quiet PySem.F.plain_extend_loop _, ?_⟩
  exact zl_loop (s := s) (h₁ := s.heap) hn hh D zS tS oS s1 s2 l1S l2S small res hR n 0 _ s.toks _ #[] [] (Nat.sub_zero _) (Nat.zero_le _)
    (st.stays oth (Nat.ne_of_lt zS) (Nat.ne_of_lt tS) (Nat.ne_of_lt oS) (Nat.ne_of_lt s1) (Nat.ne_of_lt s2)) (L1.at fun o e => oth _ o (Nat.ne_of_lt l1S) e) (L2.at fun o e => oth _ o (Nat.ne_of_lt l2S) e)
    (fun b o q0 _ _ _ _ e => oth b o q0 e) hS₃ rfl rfl ⟨List.Pairwise.nil, (fun _ ha => nomatch ha), (fun j a hj => by simp at hj)⟩
theorem zl_init {R : Result → Shared → Prop} {z TI TO i1 i2 l1 l2 S : Addr} {n : Nat} (hn : n = min xs.size ys.size) (hh : A.handled = none) (D : ZipApart z TI TO i1 i2 l1 l2)
    (zS : z < S) (tS : TI < S) (oS : TO < S) (s1 : i1 < S) (s2 : i2 < S) (l1S : l1 < S) (l2S : l2 < S) (small : n ≤ sizeLine)
    (st : ZSt s.heap z TI TO i1 i2 l1 l2 S 0) (hz0 : ∃ f0, IsZip s.heap z TI TO f0) (L1 : s.heap.IsList l1 xs) (L2 : s.heap.IsList l2 ys) (hS : s.heap.get? S = some { cls := .type "list", data := .seq #[] })
    (hR : ∀ h' tk acc c as, (∀ b o, b ≠ S → b ≠ z → b ≠ TO → b ≠ i1 → b ≠ i2 → s.heap.get? b = some o → h'.get? b = some o) →
      h'.get? S = some { cls := .type "list", dict := none, data := .seq acc c, slots := #[] } → as.length = n → ZG xs ys S h' as → acc.toList = as.map Value.ref → R (.ok (.ret .none)) { s with heap := h', toks := tk }) :
    wpAny (model prog w) A.in1 (Builtin.«list.__init__» ⟨[.ref S, .ref z], []⟩)
      (fun r t => match r with | .done f => R (.ok f) t | .again c => c.quiet = true ∧ codeAny (model prog w) A c R t) (fun e t => R (.error e) t) s := by
  obtain ⟨f0, hz⟩ := hz0
  show wpAny _ _ (do let old ← Builtin.List.listItems (.ref S); Builtin.List.listUpdate (.ref S) (fun _ => #[]); letGo old.toList.reverse; Builtin.List.listExtendWith (.ref S) (.ref z) .none) _ _ s
  refine wpAny_bind ?_
  rw [Builtin.List.listItems]
  refine wpAny_bind (wpAny_seqItems hS rfl (wpAny_pure (show wpAny _ _ (_ >>= _) _ _ s from ?_)))
  show wpAny _ _ (updateSeq S (fun _ => #[]) >>= fun _ => letGo (#[] : Array Value).toList.reverse >>= fun _ => Builtin.List.listExtendWith (.ref S) (.ref z) .none) _ _ s
  have bare := Heap.get?_update_self (Obj.mapSeq (fun _ => (#[] : Array Value))) hS rfl
  have oth : ∀ c ob, c ≠ S → s.heap.get? c = some ob → (s.heap.update S (Obj.mapSeq (fun _ => (#[] : Array Value)))).get? c = some ob := fun _ _ ne e => (Heap.get?_update_other _ _ ne.symm).trans e
  refine wpAny_bind (wpAny_updateSeq hS rfl (wpAny_bind (wpAny_letGo ?_)))
  exact zl_extend (s := { s with heap := s.heap.update S (Obj.mapSeq (fun _ => (#[] : Array Value))) }) hn hh D zS tS oS s1 s2 l1S l2S small .none _
    (st.stays oth (Nat.ne_of_lt zS) (Nat.ne_of_lt tS) (Nat.ne_of_lt oS) (Nat.ne_of_lt s1) (Nat.ne_of_lt s2)) ⟨f0, oth _ _ (Nat.ne_of_lt zS) hz⟩
    (L1.at fun o e => oth _ o (Nat.ne_of_lt l1S) e) (L2.at fun o e => oth _ o (Nat.ne_of_lt l2S) e) bare
    fun h' tk acc c as k => hR h' tk acc c as fun b o q0 q1 q2 q3 q4 e => k b o q0 q1 q2 q3 q4 (oth b o q0 e)
/-- list(z), z a zip object of two lists that was just made -/
theorem zl_call {z TI TO i1 i2 l1 l2 : Addr} {n : Nat} {Q : Value → Shared → Prop} (hn : n = min xs.size ys.size) (hh : A.handled = none) (D : ZipApart z TI TO i1 i2 l1 l2)
    (small : n ≤ sizeLine) (hz : IsZip s.heap z TI TO .none) (hTI : IsPair s.heap TI (.ref i1) (.ref i2)) (hTO : IsPair s.heap TO .none .none)
    (h1 : s.heap.IsListIter i1 l1 0) (h2 : s.heap.IsListIter i2 l2 0) (L1 : s.heap.IsList l1 xs) (L2 : s.heap.IsList l2 ys)
    (hQ : ∀ h' tk acc c as, (∀ b o, b ≠ z → b ≠ TO → b ≠ i1 → b ≠ i2 → s.heap.get? b = some o → h'.get? b = some o) →
      h'.get? s.heap.objs.size = some { cls := .type "list", dict := none, data := .seq acc c, slots := #[] } → as.length = n → ZG xs ys s.heap.objs.size h' as → acc.toList = as.map Value.ref → Q (.ref s.heap.objs.size) { s with heap := h', toks := tk }) :
    wpAny (model prog w) A (call (.type "list") [.ref z]) Q E s := by
  refine callType_codes (Q₁ := fun v t => v = .ref s.heap.objs.size ∧ t = { s with heap := s.heap.push { cls := .type "list", data := .seq #[] } }) PySem.F.called_list (PySem.F.typeCall_list_1 _) PySem.F.entry_list_init
    (code_list_new _ ⟨rfl, rfl⟩) fun v t got => ?_
  obtain ⟨rfl, rfl⟩ := got
  have hS : (Heap.push s.heap { cls := .type "list", data := .seq #[] }).get? s.heap.objs.size = some { cls := .type "list", data := .seq #[] } := Heap.get?_push_size _ rfl
  have up : ∀ {b : Addr} {o : Obj}, s.heap.get? b = some o → (s.heap.push { cls := .type "list", data := .seq #[] }).get? b = some o := fun e => Heap.get?_push_of_some _ e
  have b1 : i1 < s.heap.objs.size := by
    obtain ⟨_, e, _⟩ := id h1
    exact Heap.lt_size e
  have b2 : i2 < s.heap.objs.size := by
    obtain ⟨_, e, _⟩ := id h2
    exact Heap.lt_size e
  have c1 : l1 < s.heap.objs.size := by
    obtain ⟨_, e, _⟩ := id L1
    exact Heap.lt_size e
  have c2 : l2 < s.heap.objs.size := by
    obtain ⟨_, e, _⟩ := id L2
    exact Heap.lt_size e
  refine ⟨⟨_, hS, rfl⟩, PySem.F.args_list_init_2 _ _, zl_init (s := { s with heap := s.heap.push { cls := .type "list", data := .seq #[] } }) (A := A.in1) hn hh D (Heap.lt_size hz) (Heap.lt_size hTI) (Heap.lt_size hTO) b1 b2 c1 c2 small
    ⟨up hTI, h1.at fun o e => up e, h2.at fun o e => up e, .inl ⟨up hz, _, _, up hTO⟩⟩ ⟨_, up hz⟩ (L1.at fun o e => up e) (L2.at fun o e => up e) hS fun h' tk acc c as k hS' hl G hacc => ?_⟩
  exact ⟨rfl, hQ h' tk acc c as (fun b o q1 q2 q3 q4 e => k b o (Nat.ne_of_lt (Heap.lt_size e)) q1 q2 q3 q4 (up e)) hS' hl G hacc⟩
end
end Kz
set_option Elab.async false
set_option linter.all false
set_option maxRecDepth 100000
set_option maxHeartbeats 1000000
namespace Kz
open PySem PySem.Spec PyProof.Rows L2
/-- pairs tracked at their addresses -/
def putP : Hp → List Addr → List (V × V) → Hp
  | H, a :: as, p :: ps => putP (upd H a (.tup [p.1, p.2])) as ps
  | H, _, _ => H
theorem putP_off {b : Addr} : ∀ (as : List Addr) (ps : List (V × V)) (H : Hp), b ∉ as → putP H as ps b = H b
  | [], _, _, _ => rfl
  | _ :: _, [], _, _ => rfl
  | a :: as, p :: ps, H, no => by
    show putP (upd H a (.tup [p.1, p.2])) as ps b = H b
    have n1 : b ∉ as := fun z => no (List.mem_cons_of_mem _ z)
    have n2 : b ≠ a := fun z => no (by rw [z]; exact List.mem_cons_self)
    rw [putP_off as ps _ n1, upd_ne n2]
theorem putP_at : ∀ (as : List Addr) (ps : List (V × V)) (H : Hp), as.Nodup → ∀ (j : Nat) (a : Addr) (p : V × V), as[j]? = some a → ps[j]? = some p → putP H as ps a = some (.tup [p.1, p.2])
  | [], _, _, _, j, a, p, h, _ => by simp at h
  | _ :: _, [], _, _, j, a, p, _, h => by simp at h
  | a :: as, p :: ps, H, nd, 0, b, q, h1, h2 => by
    cases Option.some.inj h1
    cases Option.some.inj h2
    show putP (upd H a (.tup [p.1, p.2])) as ps a = _
    rw [putP_off as ps _ (List.nodup_cons.mp nd).1, upd_same]
  | a :: as, p :: ps, H, nd, j + 1, b, q, h1, h2 => putP_at as ps _ (List.nodup_cons.mp nd).2 j b q h1 h2
/-- list(zip(xs, ys)): a new list of new pairs -/
def rLZ (K : PySem.W.Frag) : List V → Hp → VK → Prop := fun vs H Q => ∃ (a b : Addr) (xs ys : List V), vs = [.ref a, .ref b] ∧ SqL K H a xs ∧ SqL K H b ys ∧
  ∀ (H' : Hp) (l : Addr) (ts : List Addr), (∀ b o, H b = some o → H' b = some o) → H l = none → (∀ t ∈ ts, H t = none) → H' l = some (.lst (ts.map V.ref)) → ts.length = min xs.length ys.length →
    (∀ (j : Nat) (t : Addr), ts[j]? = some t → ∃ x y, xs[j]? = some x ∧ ys[j]? = some y ∧ H' t = some (.tup [x, y])) → Q (.ref l) H'
def tLZ (K : PySem.W.Frag) (ta : TA) : TE := fun σ H Q => ta σ H fun vs H1 => rLZ K vs H1 Q
section
variable {X : Cx} {e1 e2 : Expr} {ta : TA} {p p2 pos pos2 : Pos}
theorem pairs_laid {pins : List (Addr × Obj)} {σ : L2.St} {H : Hp} {s : Shared} {h' : Heap} {tk : Nat} {S : Addr} {xs ys : List V} {us ws : List Value} {acc : Array Value} {c : Nat} {as : List Addr}
    (I : Inv X pins σ H s) (rx : Vals xs us) (ry : Vals ys ws) (low : s.heap.objs.size ≤ S) (small : as.length ≤ sizeLine)
    (k : ∀ b o, s.heap.get? b = some o → h'.get? b = some o) (hS : h'.get? S = some { cls := .type "list", dict := none, data := .seq acc c, slots := #[] })
    (hl : as.length = min xs.length ys.length) (G : ZG us.toArray ws.toArray S h' as) (hacc : acc.toList = as.map Value.ref) :
    ∃ H' : Hp, (∀ b o, H b = some o → H' b = some o) ∧ H S = none ∧ (∀ t ∈ as, H t = none) ∧ H' S = some (.lst (as.map V.ref)) ∧
      (∀ (j : Nat) (t : Addr), as[j]? = some t → ∃ x y, xs[j]? = some x ∧ ys[j]? = some y ∧ H' t = some (.tup [x, y])) ∧ Inv X pins σ H' { s with heap := h', toks := tk } := by
  have nS : S ∉ as := fun z => Nat.lt_irrefl _ (G.above _ z)
  have nd : as.Nodup := List.Pairwise.imp (fun {a b} (h : a < b) => Nat.ne_of_lt h) G.rise
  have new : ∀ t ∈ as, H t = none := fun t ht => I.hok.fresh (Nat.le_trans low (Nat.le_of_lt (G.above t ht)))
  have newS : H S = none := I.hok.fresh low
  obtain ⟨H', eH⟩ : ∃ H', H' = putP (upd H S (.lst (as.map V.ref))) as (xs.zip ys) := ⟨_, rfl⟩
  have off : ∀ b, b ∉ as → b ≠ S → H' b = H b := fun b h1 h2 => by rw [eH, putP_off as _ _ h1, upd_ne h2]
  have atP : ∀ (j : Nat) (t : Addr), as[j]? = some t → ∃ x y, xs[j]? = some x ∧ ys[j]? = some y ∧ H' t = some (.tup [x, y]) := fun j t ht => by
    have hj : j < as.length := (List.getElem?_eq_some_iff.mp ht).1
    have jx : j < xs.length := by omega
    have jy : j < ys.length := by omega
    refine ⟨xs[j], ys[j], List.getElem?_eq_getElem jx, List.getElem?_eq_getElem jy, ?_⟩
    rw [eH]
    exact putP_at as (xs.zip ys) _ nd j t (xs[j], ys[j]) ht (by rw [List.getElem?_zip_eq_some]; exact ⟨List.getElem?_eq_getElem jx, List.getElem?_eq_getElem jy⟩)
  have kp : ∀ b u, H b = some u → H' b = some u := fun b u e => by
    exact (off b (fun z => by have y := new b z; rw [e] at y; cases y) (fun z => by have y := newS; rw [← z, e] at y; cases y)).trans e
  have eS : H' S = some (.lst (as.map V.ref)) := by rw [eH, putP_off as _ _ nS, upd_same]
  have lows : ∀ b o, s.heap.get? b = some o → b ∉ as ∧ b ≠ S := fun b o e => by
    have lt := Heap.lt_size e
    exact ⟨fun z => Nat.lt_irrefl _ (Nat.lt_trans (Nat.lt_of_lt_of_le lt low) (G.above b z)), Nat.ne_of_lt (Nat.lt_of_lt_of_le lt low)⟩
  refine ⟨H', kp, newS, new, eS, atP, ?_⟩
  refine I.call' (ch := []) rfl ⟨fun b o q _ _ _ => k b o q, fun b o q _ _ _ => ⟨o.slots, k b o q⟩, fun b o q n _ => ?_, fun b o q _ => ⟨o, k b o q⟩, fun b xs q => kp b _ q, fun b o u q => kp b _ q, fun b ps q => ⟨#[], by rw [kp b _ q]; simp⟩⟩ (fun b u q => ?_) I.bare fun b z => by simp at z
  · obtain ⟨z1, z2⟩ := lows b o q
    rw [off b z1 z2]
    exact n
  · by_cases hb : b ∈ as
    · obtain ⟨j, hj⟩ := List.mem_iff_getElem?.mp hb
      obtain ⟨x, y, e1, e2, e3⟩ := atP j b hj
      rw [e3] at q
      cases q
      obtain ⟨u, v, f1, f2, f3⟩ := G.pairs j b hj
      obtain ⟨u', g1, r1⟩ := rx.get e1
      obtain ⟨v', g2, r2⟩ := ry.get e2
      rw [List.getElem?_toArray] at f1 f2
      cases Option.some.inj (f1.symm.trans g1)
      cases Option.some.inj (f2.symm.trans g2)
      exact ⟨by show 2 ≤ sizeLine; decide, [u, v], .cons r1 (.cons r2 .nil), ⟨_, f3, rfl, _, rfl⟩⟩
    · by_cases hb2 : b = S
      · rw [hb2] at q ⊢
        rw [eS] at q
        cases q
        refine ⟨by rw [List.length_map]; omega, acc.toList, c, by rw [hacc]; exact LiI.vals_refs as, ?_⟩
        rw [Array.toArray_toList]
        exact hS
      · rw [off b hb hb2] at q
        exact (I.hok b u q).stay (fun d v _ y => k d v y) (fun d y => kp d _ y) fun d xs y => kp d _ y
theorem pe_listZip (hc : X.calm = true) (hg : Gl X "list") (hm : X.mg "list" = none) (hg2 : Gl X "zip") (hm2 : X.mg "zip" = none) (ha : PA X [e1, e2] ta)
    (hs2 : starEach [e1, e2] X.env = (false, eval e1 X.env) :: starEach [e2] X.env := by rfl) (hpl : (backTo pos2 (starEach [e2] X.env)).any (·.1) = false := by rfl)
    (hs : starEach [.Call (.Name "zip" p2) [e1, e2] [] pos2] X.env = (false, eval (.Call (.Name "zip" p2) [e1, e2] [] pos2) X.env) :: starEach [] X.env := by rfl) :
    PE X (.Call (.Name "list" p) [.Call (.Name "zip" p2) [e1, e2] [] pos2] [] pos) (tLZ X.K ta) := by
  refine ⟨fun pins s σ H Q I want => ?_⟩
  refine wpAny_Call_Name_kw (ld_blt I hg hm (show bootBuiltins "list" = some (.type "list") by decide +kernel) ?_)
  refine PyProof.Rows.callWith_type1 (rest := []) ?_ hs rfl
  rw [hs]
  show wpAny _ _ (spliced ((false, eval (.Call (.Name "zip" p2) [e1, e2] [] pos2) X.env) :: backTo pos (starEach [] X.env))) _ _ s
  refine Calls.spliced_cons ?_
  refine wpAny_Call_Name_kw (ld_blt I hg2 hm2 PyProof.Rows.boot_zip ?_)
  refine PyProof.Rows.callWith_type1 (thn (ha.run pos2 pins s σ H _ I want) fun us s1 ⟨vs, H1, I1, r1, q1⟩ => ?_) hs2 hpl
  obtain ⟨a, b, xs, ys, rfl, hqx, hqy, q⟩ := q1
  obtain ⟨u1, us1, rfl, ra, r2⟩ : ∃ u us', us = u :: us' ∧ RelV (.ref a) u ∧ Vals [.ref b] us' := by
    cases r1 with
    | cons r rr => exact ⟨_, _, rfl, r, rr⟩
  obtain ⟨u2, rfl, rb⟩ := vals1 r2
  cases ra
  cases rb
  obtain ⟨its, rv, p1, small1⟩ := I1.list hqx
  obtain ⟨its2, rv2, p2', small2⟩ := I1.list hqy
  have la : a < Array.size s1.heap.objs := p1.lt
  have lb : b < s1.heap.objs.size := p2'.lt
  have ln1 := rv.length
  have ln2 := rv2.length
  refine call_zip_2 p1.isList p2'.isList fun h' hz hTI hTO h1 h2 hsz k => ?_
  refine Calls.spliced_nil ?_
  have D := PySem.W.ktu_apart s1.heap.objs.size a b la lb
  have nn : min xs.length ys.length = min its.toArray.size its2.toArray.size := by rw [List.size_toArray, List.size_toArray, ln1, ln2]
  have sm : min xs.length ys.length ≤ sizeLine := Nat.le_trans (Nat.min_le_left _ _) small1
  refine zl_call (s := { s1 with heap := h' }) nn (I1.ok.hd hc) D sm hz hTI hTO h1 h2 (p1.isList.at fun o e => k _ o e) (p2'.isList.at fun o e => k _ o e) fun h2' tk acc c as k2 hS hl G hacc => ?_
  have kk : ∀ b o, s1.heap.get? b = some o → h2'.get? b = some o := fun b o e => by
    have lt := Heap.lt_size e
    have ne : ∀ i : Nat, b ≠ s1.heap.objs.size + i := fun i => Nat.ne_of_lt (Nat.lt_of_lt_of_le lt (Nat.le_add_right _ _))
    exact k2 b o (ne 4) (ne 3) (ne 0) (ne 1) (k b o e)
  have low : s1.heap.objs.size ≤ h'.objs.size := by rw [hsz]; exact Nat.le_add_right _ _
  obtain ⟨H', k1, n1, n2, g1, g2, J⟩ := pairs_laid (tk := tk) I1 rv rv2 low (by rw [hl]; exact sm) kk hS hl G hacc
  exact ⟨.ref _, H', J, rfl, q H' _ as k1 n1 n2 g1 hl g2⟩
end
end Kz
set_option Elab.async false
set_option linter.all false
set_option maxRecDepth 100000
set_option maxHeartbeats 1000000
namespace Kz
open PySem PySem.Spec PyProof.Rows L2
/-- the list at a and the tuple at b, the items in new pairs -/
def ItzM (K : PySem.W.Frag) (a b : Addr) : It :=
  ⟨fun i H => ∃ (xs ys : List V) (x y : V), SqL K H a xs ∧ SqT K H b ys ∧ xs[i]? = some x ∧ ys[i]? = some y,
    fun i H v H' => ∃ T x y, v = .ref T ∧ H T = none ∧ H' = upd H T (.tup [x, y]) ∧ (∀ xs, SqL K H a xs → xs[i]? = some x) ∧ ∀ ys, SqT K H b ys → ys[i]? = some y,
    fun i H => ∃ xs ys : List V, SqL K H a xs ∧ SqT K H b ys ∧ i = min xs.length ys.length⟩
theorem walk_zipM {K : PySem.W.Frag} {a b : Addr} {xs ys : List V} {n : Nat} (hn : n = min xs.length ys.length) :
    Walk (ItzM K a b) n (fun H => SqL K H a xs ∧ SqT K H b ys) (YPair (fun i => xs[i]?) (fun i => ys[i]?)) := by
  refine ⟨fun i H hi q => ?_, fun H q => ⟨xs, ys, q.1, q.2, hn⟩, fun i H x H' hi q y => ?_⟩
  · have hx : i < xs.length := by omega
    have hy : i < ys.length := by omega
    exact ⟨xs, ys, xs[i], ys[i], q.1, q.2, List.getElem?_eq_getElem hx, List.getElem?_eq_getElem hy⟩
  · obtain ⟨T, x, y, e1, e2, e3, f1, f2⟩ := y
    exact ⟨T, x, y, e1, e2, e3, f1 _ q.1, f2 _ q.2⟩
theorem turn_zipM {P : Program} {w : World} {K : PySem.W.Frag} {elts : List Expr} {kk : Nat} {tpos : Pos} {a b z TI TO i1 i2 : Addr} (S : ZipSep2 z TI TO i1 i2 [i1, a] [i2, b]) (n1 : a ≠ i1) (n2 : b ≠ i2) :
    Turn P w K (.Tuple elts kk tpos) (ItzM K a b) [z, TI, TO, i1, i2] z (fun i h => IsZip h z TI TO .none ∧ IsTupOf2 h TI (.ref i1) (.ref i2) ∧ (∃ x y, IsTupOf2 h TO x y) ∧ h.IsListIter i1 a i ∧ h.IsTupleIter i2 b i) where
  mem := by simp
  obj := fun i h st c mc => by
    obtain ⟨zz, tt0, ⟨x, y, oo0⟩, ⟨o1, e1, _, d1⟩, ⟨o2, e2, _, d2⟩⟩ := st
    simp only [List.mem_cons, List.not_mem_nil, or_false] at mc
    rcases mc with rfl | rfl | rfl | rfl | rfl
    · exact ⟨_, zz, fun v q => nomatch q⟩
    · exact ⟨_, tt0, fun v q => nomatch q⟩
    · exact ⟨_, oo0, fun v q => nomatch q⟩
    · exact ⟨o1, e1, fun v q => by rw [d1] at q; cases q⟩
    · exact ⟨o2, e2, fun v q => by rw [d2] at q; cases q⟩
  keep := fun i h h' st k => by
    obtain ⟨zz, tt0, ⟨x, y, oo0⟩, j1, j2⟩ := st
    exact ⟨k z (by simp) _ zz, k TI (by simp) _ tt0, ⟨x, y, k TO (by simp) _ oo0⟩, j1.at fun o q => k i1 (by simp) o q, j2.at fun o q => k i2 (by simp) o q⟩
  item := by
    intro X eP ew eK calm i pins s σ H E I far st got
    subst eP ew eK
    obtain ⟨zz, tt0, ⟨x0, y0, oo0⟩, j1, j2⟩ := st
    obtain ⟨xs, ys, x, y, qx, qy, ex, ey⟩ := got
    obtain ⟨as, va, p, _⟩ := I.list qx
    obtain ⟨bs, vb, p2, _⟩ := I.tuple qy
    obtain ⟨u, eu, ru⟩ := va.get ex
    obtain ⟨u2, eu2, ru2⟩ := vb.get ey
    have hh : X.A.in1.handled = none := I.ok.hd calm
    have W := WalksT.zipD2 (prog := X.prog) (w := X.w) (A := X.A) S (Draws.list hh i1 a n1 as.toArray) (Draws.tuple hh i2 b n2 bs.toArray)
    have li : i < as.length := (List.getElem?_eq_some_iff.mp eu).1
    have li2 : i < bs.length := (List.getElem?_eq_some_iff.mp eu2).1
    have hi : i < min as.toArray.size bs.toArray.size := by
      have e1 := as.size_toArray
      have e2 := bs.size_toArray
      omega
    refine W.item i s _ _ hi ⟨zz, tt0, ⟨x0, y0, oo0⟩, ⟨j1, p.isList⟩, ⟨j2, p2⟩⟩ fun T vals h' tk pt hT hTup mid k => ?_
    obtain ⟨v1, v2, g1, g2, rfl⟩ := pt
    rw [List.getElem?_toArray] at g1 g2
    cases Option.some.inj (g1.symm.trans eu)
    cases Option.some.inj (g2.symm.trans eu2)
    refine ⟨_, rfl, W.go elts kk tpos i T { s with heap := h', toks := tk } _ _ mid fun h'' st'' k2 => ?_⟩
    have ap := W.apart i T h' mid
    have hT2 : h''.IsTuple T #[u, u2] := hTup.at fun o e => k2 T o ap e
    have new : ObjOk X.prog X.w (upd H T (.tup [x, y])) h'' T (.tup [x, y]) := ⟨by show 2 ≤ sizeLine; decide, [u, u2], .cons ru (.cons ru2 .nil), hT2⟩
    have I1 : Inv X pins σ (upd H T (.tup [x, y])) { s with heap := h'', toks := tk } :=
      I.turnedNew (t' := tk) (ch := [z, TO, i1, i2]) (fun c o hb q => k2 c o hb (k c o hb q)) (fun c mem => far c (by
        simp only [List.mem_cons, List.not_mem_nil, or_false] at mem ⊢
        rcases mem with rfl | rfl | rfl | rfl <;> simp)) hT new
    refine ⟨.ref T, _, I1, rfl, ⟨T, x, y, rfl, I.hok.fresh hT, rfl, fun l hl => by rw [I.list_inj hl qx]; exact ex, fun l hl => by rw [I.tuple_inj hl qy]; exact ey⟩, ⟨st''.1, st''.2.1, st''.2.2.1, st''.2.2.2.1.1, st''.2.2.2.2.1⟩, fun c mem => ?_⟩
    have low : c < s.heap.objs.size := by
      simp only [List.mem_cons, List.not_mem_nil, or_false] at mem
      rcases mem with rfl | rfl | rfl | rfl | rfl
      · exact Heap.lt_size zz
      · exact Heap.lt_size tt0
      · exact Heap.lt_size oo0
      · obtain ⟨_, e1, _⟩ := id j1
        exact Heap.lt_size e1
      · obtain ⟨_, e2, _⟩ := id j2
        exact Heap.lt_size e2
    rw [upd_ne (Nat.ne_of_lt (Nat.lt_of_lt_of_le low hT))]
    exact (far c mem).1
  done := by
    intro X eP ew eK calm i pins s σ H E I far st got
    subst eP ew eK
    obtain ⟨zz, tt0, ⟨x0, y0, oo0⟩, j1, j2⟩ := st
    obtain ⟨xs, ys, qx, qy, last⟩ := got
    obtain ⟨as, va, p, _⟩ := I.list qx
    obtain ⟨bs, vb, p2, _⟩ := I.tuple qy
    have hh : X.A.in1.handled = none := I.ok.hd calm
    have W := WalksT.zipD2 (prog := X.prog) (w := X.w) (A := X.A) S (Draws.list hh i1 a n1 as.toArray) (Draws.tuple hh i2 b n2 bs.toArray)
    have e : i = min as.toArray.size bs.toArray.size := by
      rw [last, List.size_toArray, List.size_toArray, va.length, vb.length]
    rw [e] at j1 j2
    refine W.done s _ _ ⟨zz, tt0, ⟨x0, y0, oo0⟩, ⟨j1, p.isList⟩, ⟨j2, p2⟩⟩ fun h' tk k => ⟨rfl, ?_⟩
    exact I.turnedL (t' := tk) (ch := [z, TO, i1, i2]) k fun c mem => far c (by
      simp only [List.mem_cons, List.not_mem_nil, or_false] at mem ⊢
      rcases mem with rfl | rfl | rfl | rfl <;> simp)
  self := fun _ _ _ _ _ now h => wpAny_pyIter_zip now.1 h
def iZipM (K : PySem.W.Frag) (ta : TA) : TI := fun σ H R => ta σ H fun vs H1 => ∃ a b xs ys, vs = [.ref a, .ref b] ∧ SqL K H1 a xs ∧ SqT K H1 b ys ∧ R (ItzM K a b) H1
theorem pi_zipM {X : Cx} {e e2 : Expr} {ta : TA} {p pos tpos : Pos} {elts : List Expr} {kk : Nat} (hg : Gl X "zip") (hm : X.mg "zip" = none) (ha : PA X [e, e2] ta)
    (star : starEach [e, e2] X.env = (false, eval e X.env) :: starEach [e2] X.env := by rfl) (plain : (backTo pos (starEach [e2] X.env)).any (·.1) = false := by rfl) :
    PI X (.Tuple elts kk tpos) (.Call (.Name "zip" p) [e, e2] [] pos) (iZipM X.K ta) := by
  refine ⟨fun pins s σ H R I want => ?_⟩
  refine Call_ (ld_blt I hg hm PyProof.Rows.boot_zip (PyProof.Rows.callWith_type1 (thn (ha.run pos pins s σ H _ I want) fun us s1 ⟨vs, H1, I1, r1, q1⟩ => ?_) star plain))
  obtain ⟨a, b, xs, ys, rfl, qx, qy, q⟩ := q1
  obtain ⟨u1, us1, rfl, ra, r2⟩ : ∃ u us', us = u :: us' ∧ RelV (.ref a) u ∧ Vals [.ref b] us' := by
    cases r1 with
    | cons r rr => exact ⟨_, _, rfl, r, rr⟩
  obtain ⟨u2, rfl, rb⟩ := vals1 r2
  cases ra
  cases rb
  obtain ⟨as, va, p1, _⟩ := I1.list qx
  obtain ⟨bs, vb, p2, _⟩ := I1.tuple qy
  have ba : a < s1.heap.objs.size := p1.lt
  have bb : b < s1.heap.objs.size := by
    obtain ⟨_, eb, _⟩ := id p2
    exact Heap.lt_size eb
  refine zip_begins2 (begins_list a as.toArray) (begins_tuple b bs.toArray) p1.isList p2 fun h' zz tt0 oo0 g1 g2 hsz k => wpAny_pyIter_zip zz ?_
  have I2 : Inv X pins σ H1 { s1 with heap := h' } := I1.kept (t' := s1.toks) k
  have sep : ZipSep2 (s1.heap.objs.size + 4) (s1.heap.objs.size + 2) (s1.heap.objs.size + 3) s1.heap.objs.size (s1.heap.objs.size + 1) [s1.heap.objs.size, a] [s1.heap.objs.size + 1, b] :=
    zip_sep2 (fun c hc => by rw [List.mem_singleton.mp hc]; exact ba) (fun c hc => by rw [List.mem_singleton.mp hc]; exact bb)
  refine ⟨s1.heap.objs.size + 4, [s1.heap.objs.size + 4, s1.heap.objs.size + 2, s1.heap.objs.size + 3, s1.heap.objs.size, s1.heap.objs.size + 1], _, _, H1, rfl, I2,
    turn_zipM sep (Nat.ne_of_lt ba) (Nat.ne_of_lt (Nat.lt_of_lt_of_le bb (Nat.le_add_right _ _))), ⟨zz, tt0, ⟨_, _, oo0⟩, ⟨_, g1, rfl, rfl⟩, ⟨_, g2, rfl, rfl⟩⟩, fun c mem => ?_, q⟩
  have high : s1.heap.objs.size ≤ c := by
    simp only [List.mem_cons, List.not_mem_nil, or_false] at mem
    rcases mem with rfl | rfl | rfl | rfl | rfl
    · exact Nat.le_add_right _ _
    · exact Nat.le_add_right _ _
    · exact Nat.le_add_right _ _
    · exact Nat.le_refl _
    · exact Nat.le_add_right _ _
  exact I1.fpOk high (I1.hok.fresh high)
end Kz
set_option Elab.async false
set_option linter.all false
set_option maxRecDepth 100000
set_option maxHeartbeats 1000000
namespace Kz
open PySem PySem.Spec PyProof.Rows L2
/-- len(o) by the class's own __len__ at f -/
def rLenI (K : PySem.W.Frag) (f : Addr) (sp : Sp) (E : XK) : List V → Hp → VK → Prop := fun xs H Q => ∃ (a C dx : Addr) (fs : List (Str × V)), xs = [.ref a] ∧ H a = some (.ins C dx fs) ∧
  PySem.W.findIn K (.ref C) "__len__" = some (some (.ref f)) ∧ PySem.W.isFn K (.ref f) = true ∧ sp [.ref a] H (fun v H' => ∃ n : Int, v = .int n ∧ 0 ≤ n ∧ n < 2 ^ 63 ∧ Q (.int n) H') E
theorem call_lenI {X : Cx} {CX : CXT} {k : Nat} {f : Addr} {fd : FuncData} {p : Str} {sp : Sp} {E : XK} (F : FnOk X.prog X.w X.K X.mg X.base CX k f fd [p] sp) (hr : Room (k + 1) X.A) (hb : Binds X.K fd [p] []) (hx : Passes CX X E) :
    CallR X (.builtin "len") (rLenI X.K f sp E) := by
  intro pins s σ H xs us Q I rel want
  obtain ⟨a, C, dx, fs, rfl, e, hf, fn, sp1⟩ := want
  obtain ⟨u, rfl, ru⟩ := vals1 rel
  cases ru
  obtain ⟨_, O, _, _, _, _⟩ := ins_get I.hok e
  obtain ⟨od, J, _⟩ := O.look
  obtain ⟨m, Fm⟩ := I.fr
  refine PySem.W.len_K Fm I.ok.mod.kin J hf fn ?_
  have run := F.run X.A.in1 X.stack s H ⟨[.ref a], []⟩ [.ref a] [.ref a] _ E hr.in1 I.env0.in1 (hb s [.ref a] I.kIn rfl) (.cons rfl .nil) sp1
  refine wpAny_call (codeAny_mono run fun r s' got => ?_)
  match r, got with
  | .error e, got => exact hx pins σ H s e s' I got
  | .ok (.ret u), got =>
    obtain ⟨v, H', I', rv, n, rfl, n0, n1, q⟩ := I.after got
    obtain ⟨t, rfl⟩ := rv
    exact ⟨⟨n0, n1⟩, .int n, H', I'.tok _, ⟨_, rfl⟩, q⟩
end Kz
set_option Elab.async false
set_option linter.all false
set_option maxRecDepth 100000
namespace Kc
open PySem PySem.Spec PyProof.Rows L2 Kx TL
theorem same_new {H : Hp} {p : Addr} {o : HO} (h : H p = none) : Same H (upd H p o) := fun b x e => by
  rw [upd_ne (ne_of_none e h)]
  exact e
abbrev abc : Str := "abcdefghijklmnopqrstuvwxyz"
def wordB : V → Bool
  | .str z => decide (1 ≤ (z.length : Int)) && (decide ((z.length : Int) ≤ 8) && z.cps.toList.all fun c => decide (c ∈ abc.cps.toList))
  | _ => false
/-- a value of which isinstance(.., str) is known -/
inductive Thing (K : PySem.W.Frag) (H : Hp) : V → Prop
  | str (z : Str) (h : z.length ≤ sizeLine) : Thing K H (.str z)
  | non : Thing K H .non
  | bl (b : Bool) : Thing K H (.bl b)
  | int (i : Int) : Thing K H (.int i)
  | lst {a : Addr} {xs : List V} (h : H a = some (.lst xs)) : Thing K H (.ref a)
  | tup {a : Addr} {xs : List V} (h : H a = some (.tup xs)) : Thing K H (.ref a)
  | dct {a : Addr} {kvs : List (Key × V)} (h : H a = some (.dK kvs)) : Thing K H (.ref a)
theorem Thing.same {K : PySem.W.Frag} {H H' : Hp} {v : V} (t : Thing K H v) (s : Same H H') : Thing K H' v := by
  cases t with
  | str z h => exact .str z h
  | non => exact .non
  | bl b => exact .bl b
  | int i => exact .int i
  | lst h => exact .lst (s _ _ h)
  | tup h => exact .tup (s _ _ h)
  | dct h => exact .dct (s _ _ h)
/-- its type, and whether that is str -/
def isStr : V → Bool
  | .str _ => true
  | _ => false
theorem Thing.ty {K : PySem.W.Frag} {H : Hp} {v : V} (t : Thing K H v) :
    ∃ u, TyX K H v u ∧ PySem.W.kitOne K u (.type "str") = some (isStr v) := by
  cases t with
  | str z h => exact ⟨_, .base (.str z), kit_ty (show kitB "str" "str" = some true by decide +kernel)⟩
  | non => exact ⟨_, .base .non, kit_ty (by decide +kernel)⟩
  | bl b => exact ⟨_, .base (.bl b), kit_ty (show kitB "bool" "str" = some false by decide +kernel)⟩
  | int i => exact ⟨_, .base (.int i), kit_ty (show kitB "int" "str" = some false by decide +kernel)⟩
  | lst h => exact ⟨_, .base (.lst h), kit_ty (show kitB "list" "str" = some false by decide +kernel)⟩
  | tup h => exact ⟨_, .base (.tup h), kit_ty (show kitB "tuple" "str" = some false by decide +kernel)⟩
  | dct h => exact ⟨_, .base (.dK h), kit_ty (show kitB "dict" "str" = some false by decide +kernel)⟩
def Pot (H : Hp) (p : Addr) : Prop := ∃ x y : Int, 0 ≤ x ∧ 0 ≤ y ∧ y < 2147483647 ∧ H p = some (.lst [.int x, .int y])
/-- all but p stays -/
def But (p : Addr) (H H' : Hp) : Prop := ∀ b o, b ≠ p → H b = some o → H' b = some o
theorem But.refl {p : Addr} {H : Hp} : But p H H := fun _ _ _ e => e
theorem But.trans {p : Addr} {H H1 H2 : Hp} (a : But p H H1) (b : But p H1 H2) : But p H H2 := fun c o n e => b c o n (a c o n e)
theorem But.put {p : Addr} {H H1 : Hp} {o : HO} (a : But p H H1) : But p H (upd H1 p o) := fun b x n e => by
  rw [upd_ne n]
  exact a b x n e
theorem But.new {p q : Addr} {H H1 : Hp} {o : HO} (a : But p H H1) (n : H1 q = none) : But p H (upd H1 q o) := fun b x nb e => by
  rw [upd_ne (ne_of_none (a b x nb e) n)]
  exact a b x nb e
theorem Same.but {p : Addr} {H H' : Hp} (s : Same H H') : But p H H' := fun b o _ e => s b o e
theorem Pot.new {H : Hp} {p q : Addr} {o : HO} (h : Pot H p) (n : H q = none) : Pot (upd H q o) p := by
  obtain ⟨x, y, h1, h2, h3, e⟩ := h
  exact ⟨x, y, h1, h2, h3, same_new n _ _ e⟩
theorem Thing.but {K : PySem.W.Frag} {H H' : Hp} {p : Addr} {v : V} (t : Thing K H v) (n : v ≠ .ref p) (s : But p H H') : Thing K H' v := by
  cases t with
  | str z h => exact .str z h
  | non => exact .non
  | bl b => exact .bl b
  | int i => exact .int i
  | lst h => exact .lst (s _ _ (fun e => n (by rw [e])) h)
  | tup h => exact .tup (s _ _ (fun e => n (by rw [e])) h)
  | dct h => exact .dct (s _ _ (fun e => n (by rw [e])) h)
theorem joinL_len : ∀ ps : List (List Nat), (joinL [] ps).length = (ps.map List.length).sum
  | [] => rfl
  | [p] => by simp [joinL]
  | p :: r :: rs => by
    show (p ++ ([] ++ joinL [] (r :: rs))).length = p.length + ((r :: rs).map List.length).sum
    rw [List.nil_append, List.length_append, joinL_len (r :: rs)]
theorem sum_ones : ∀ ys : List Str, (∀ y ∈ ys, y.length = 1) → (ys.map (·.length)).sum = ys.length
  | [], _ => rfl
  | y :: r, h => by
    rw [List.map_cons, List.sum_cons, sum_ones r fun z hz => h z (List.mem_cons_of_mem _ hz), h y List.mem_cons_self, List.length_cons]
    omega
theorem join_len (ys : List Str) : (Txt.join "" ys).length = (ys.map (·.length)).sum := by
  have e : Txt.join "" ys = Str.join "" ys := by
    unfold Txt.join
    rw [StrLaws.glued_eq_join]
  rw [e, len_tl, tl_join, show tl (Str.ofString "") = [] from rfl, joinL_len, List.map_map]
  congr 1
theorem cut_len (z : Str) (lo hi : Option Int) : (cutS z lo hi).length ≤ z.length := by
  rw [len_tl, len_tl z]
  show (((z.cps.toList.drop _).take _).toArray.toList).length ≤ _
  rw [List.length_take]
  rw [List.length_drop]
  show min _ (z.cps.toList.length - _) ≤ z.cps.toList.length
  omega
theorem SqL.but {K : PySem.W.Frag} {H H' : Hp} {p a : Addr} {xs : List V} (h : SqL K H a xs) (n : a ≠ p) (b : But p H H') : SqL K H' a xs := by
  rcases h with (e | ⟨o, e⟩) | e
  · exact .inl (.inl (b _ _ n e))
  · exact .inl (.inr ⟨o, b _ _ n e⟩)
  · exact .inr e
theorem SqT.but {K : PySem.W.Frag} {H H' : Hp} {p a : Addr} {xs : List V} (h : SqT K H a xs) (n : a ≠ p) (b : But p H H') : SqT K H' a xs := by
  rcases h with (e | ⟨o, e⟩) | e
  · exact .inl (.inl (b _ _ n e))
  · exact .inl (.inr ⟨o, b _ _ n e⟩)
  · exact .inr e
theorem SqT.same {K : PySem.W.Frag} {H H' : Hp} {a : Addr} {xs : List V} (h : SqT K H a xs) (b : Same H H') : SqT K H' a xs := by
  rcases h with (e | ⟨o, e⟩) | e
  · exact .inl (.inl (b _ _ e))
  · exact .inl (.inr ⟨o, b _ _ e⟩)
  · exact .inr e
theorem Pot.same {H H' : Hp} {p : Addr} (h : Pot H p) (s : Same H H') : Pot H' p := by
  obtain ⟨x, y, h1, h2, h3, e⟩ := h
  exact ⟨x, y, h1, h2, h3, s _ _ e⟩
theorem Pot.ne {H : Hp} {p q : Addr} (h : Pot H p) (n : H q = none) : q ≠ p := fun e => by
  obtain ⟨x, y, _, _, _, z⟩ := h
  rw [e, z] at n
  cases n
theorem But.none {p q : Addr} {H H' : Hp} (b : But p H H') (n : H' q = none) (ne : q ≠ p) : H q = none := by
  cases e : H q with
  | none => rfl
  | some o =>
    rw [b _ _ ne e] at n
    cases n
end Kc
set_option Elab.async false
set_option linter.all false
set_option maxRecDepth 100000
set_option maxHeartbeats 2000000
namespace Kx
open PySem PySem.Spec PyProof.Rows L2
/-- own classes, then the base's own line -/
def overB (tail : List Value) : List Value → Bool
  | .ref _ :: r => overB tail r
  | l => l == tail
inductive Over (tail : List Value) : List Value → Prop
  | here : Over tail tail
  | step {c : Addr} {r : List Value} : Over tail r → Over tail (.ref c :: r)
theorem over_of {tail : List Value} : ∀ {l : List Value}, overB tail l = true → Over tail l := by
  intro l
  fun_induction overB tail l with
  | case1 c r ih => exact fun h => .step (ih h)
  | case2 l _ => exact fun h => by rw [beq_iff_eq.mp h]; exact .here
/-- what a built-in base gives to the own classes over it -/
structure Bas (B newId initId : String) (tail : List Value) : Prop where
  base : ExcBaseFacts B newId initId tail
  sup : PySem.W.KxsFacts B initId
  pass : ∀ self : Value, PySem.refuseLoop self "__setattr__" tail = pure ()
  obj : tail.contains (.type "object") = true
  some : tail.isEmpty = false
abbrev tailOf (B : String) : List Value := [.type B, .type "Exception", .type "BaseException", .type "object"]
theorem basV : Bas "ValueError" "ValueError.__new__" "ValueError.__init__" (tailOf "ValueError") := ⟨F.excBase_ValueError, PySem.W.kxs_ValueError, F.store_ValueError.passes, by decide +kernel, rfl⟩
section
variable {B newId initId : String} {tail l : List Value}
theorem Over.pass (b : Bas B newId initId tail) (o : Over tail l) (self : Value) : PySem.refuseLoop self "__setattr__" l = pure () := by
  induction o with
  | here => exact b.pass self
  | step _ ih => exact (PySem.refuseLoop_ref ..).trans ih
theorem Over.has (o : Over tail l) (Y : String) : l.contains (.type Y) = tail.contains (.type Y) := by
  induction o with
  | here => rfl
  | step _ ih => rw [List.contains_cons, ih]; rfl
theorem Over.ne (b : Bas B newId initId tail) (o : Over tail l) : l.isEmpty = false := by
  cases o with
  | here => exact b.some
  | step _ => rfl
end
section
open PySem.W PySem.Calls PySem.HandSPX PySem.OEX
open PySem.Builtin PySem.Builtin.ObjectAttr
variable {prog : Program} {w : World} {A : Around} {R : Result → Shared → Prop} {hp : Heap} {g : Array GenState} {d : Drawn} {t : Nat} {os : OsState}
variable {B newId initId : String} {tail : List Value} {K : Frag} {nm : Str} {tk : Tok} {v : Value} {x C dx : Addr} {fv : Array Value} {cd : ClassData}
/-- x.nm = v, x an exception that has no dict as yet -/
theorem set_new (b : Bas B newId initId tail) (X : K.In hp) (at_ : hp.get? x = some { cls := .ref C, data := .fields fv }) (hc : clsIn K C = some cd) (ov : Over tail cd.mro) (dict : cd.hasDict = true) (no : findIn K (.ref C) nm = some none)
    (then_ : ∀ h2 tk2 dy, (∀ z o, z ≠ x → hp.get? z = some o → h2.get? z = some o) → hp.objs.size ≤ dy → dy ≠ x → h2.get? x = some { cls := .ref C, dict := some dy, data := .fields fv } → h2.Ns1 dy (fun y => if y = nm then some v else none) → R (.ok (.ret .none)) ⟨h2, g, d, tk2, os⟩) :
    codeAny (model prog w) A (.call (.builtin "object.__setattr__") ⟨[.ref x, .str nm tk, v], []⟩) R ⟨hp, g, d, t, os⟩ := by
  have inst : InstAt hp x { cls := .ref C, data := .fields fv } C none := ⟨at_, rfl, rfl, trivial⟩
  have sf := F.store_object
  have hob : cd.mro.contains (.type "object") = true := (ov.has "object").trans b.obj
  have far : x ≠ hp.objs.size := Nat.ne_of_lt (Heap.lt_size at_)
  have isO : Looks (model prog w) hp (isInstance (.ref x) (.type "object")) true := inst.type.andThen (looks_mroIn X (by unfold mroIn; rw [hc, Option.bind_some, if_neg (by rw [ov.ne b]; decide), hob]))
  refine codeAny_call_builtin sf.slot.plain sf.entry (@check_slot (model prog w) _ _ ⟨hp, g, d, t, os⟩ "object.__setattr__" "object" "__setattr__" (.ref x) [.str nm tk, v] [] _ sf.kind sf.split isO (sf.args (.ref x) (.str nm tk) v) ?_)
  have line : Looks (model prog w) hp (mroOf (.ref C)) cd.mro := (looks_clsIn X hc).andThen .now
  have taker : Looks (model prog w) hp (storeTaker? none) none := .now
  have cls : Looks (model prog w) hp (classData C) cd := looks_clsIn X hc
  rw [osa_eq, refuse_eq]
  refine wpAny_bind (wpAny_bind (inst.type.at (wpAny_bind (line.at ?_))))
  rw [ov.pass b]
  refine wpAny_pure (wpAny_bind (inst.type.at (wpAny_bind ((looks_findIn X no).at (wpAny_bind (taker.at ?_))))))
  show wpAny _ _ (storeInOwnDict (.ref x) (.ref C) (.str nm tk) nm v false) _ _ _
  obtain ⟨a1, a2, a3, a4, a5, a6, a7, a8, a9, a10, a11⟩ := cd
  dsimp only at dict
  subst dict
  (unfold storeInOwnDict; unfold ownDictForStores)
  repeat (first | with_reducible refine store_in_new ?_ ?_ | with_reducible refine wpAny_loadPart_at at_ ?_ | with_reducible refine cls.at ?_ | wp_step)
  · refine ⟨_, #[], _, (Heap.get?_update_ne _ _ _ _ far.symm).trans (Heap.get?_push_at rfl rfl), rfl, ?_⟩
    exact ⟨fun e he => absurd he (by simp), fun _ => rfl⟩
  · intro h2 tk2 hn2 hs2
    have at2 : (hp.push { cls := .type "dict", data := .dict #[] }).get? x = some { cls := .ref C, data := .fields fv } := Heap.get?_push_of_some _ at_
    refine then_ h2 tk2 hp.objs.size (fun z o hz ho => ?_) (Nat.le_refl _) far.symm ((hs2.2 x far).trans (Heap.get?_update_self _ at2 rfl)) hn2
    have zs : z ≠ hp.objs.size := Nat.ne_of_lt (Heap.lt_size ho)
    rw [hs2.2 z zs, Heap.get?_update_ne _ _ _ _ hz]
    exact (Heap.get?_push_of_some _ ho : _)
/-- .. that has its dict -/
theorem set_more {m0 : Str → Option Value} {nl : List Str} (b : Bas B newId initId tail) (X : K.In hp) (at_ : hp.get? x = some { cls := .ref C, dict := some dx, data := .fields fv }) (hns : hp.Ns1 dx m0) (hw : Within m0 nl) (few : nl.length ≤ 1000) (hc : clsIn K C = some cd) (ov : Over tail cd.mro) (dict : cd.hasDict = true)
    (no : findIn K (.ref C) nm = some none) (then_ : ∀ h2 tk2, (∀ z o, z ≠ dx → hp.get? z = some o → h2.get? z = some o) → h2.Ns1 dx (fun y => if y = nm then some v else m0 y) → R (.ok (.ret .none)) ⟨h2, g, d, tk2, os⟩) :
    codeAny (model prog w) A (.call (.builtin "object.__setattr__") ⟨[.ref x, .str nm tk, v], []⟩) R ⟨hp, g, d, t, os⟩ := by
  obtain ⟨od, _, _, hod, _, _⟩ := hns.count hw
  have inst : InstAt hp x { cls := .ref C, dict := some dx, data := .fields fv } C (some od) := ⟨at_, rfl, rfl, hod⟩
  have sf := F.store_object
  have hob : cd.mro.contains (.type "object") = true := (ov.has "object").trans b.obj
  have isO : Looks (model prog w) hp (isInstance (.ref x) (.type "object")) true := inst.type.andThen (looks_mroIn X (by unfold mroIn; rw [hc, Option.bind_some, if_neg (by rw [ov.ne b]; decide), hob]))
  refine codeAny_call_builtin sf.slot.plain sf.entry (@check_slot (model prog w) _ _ ⟨hp, g, d, t, os⟩ "object.__setattr__" "object" "__setattr__" (.ref x) [.str nm tk, v] [] _ sf.kind sf.split isO (sf.args (.ref x) (.str nm tk) v) ?_)
  have line : Looks (model prog w) hp (mroOf (.ref C)) cd.mro := (looks_clsIn X hc).andThen .now
  have taker : Looks (model prog w) hp (storeTaker? none) none := .now
  have cls : Looks (model prog w) hp (classData C) cd := looks_clsIn X hc
  rw [osa_eq, refuse_eq]
  refine wpAny_bind (wpAny_bind (inst.type.at (wpAny_bind (line.at ?_))))
  rw [ov.pass b]
  refine wpAny_pure (wpAny_bind (inst.type.at (wpAny_bind ((looks_findIn X no).at (wpAny_bind (taker.at ?_))))))
  show wpAny _ _ (storeInOwnDict (.ref x) (.ref C) (.str nm tk) nm v false) _ _ _
  obtain ⟨a1, a2, a3, a4, a5, a6, a7, a8, a9, a10, a11⟩ := cd
  dsimp only at dict
  subst dict
  (unfold storeInOwnDict; unfold ownDictForStores)
  repeat (first | with_reducible refine store_in_old hns hw few ?_ | with_reducible refine wpAny_loadPart_at at_ ?_ | with_reducible refine cls.at ?_ | wp_step)
  intro h2 tk2 hn2 hs2
  exact then_ h2 tk2 (fun z o hz ho => (hs2.2 z hz).trans ho) hn2
end
/-- what the written part says of the class at C, over the base B -/
structure OexB (K : PySem.W.Frag) (C : Addr) (B newId initId : String) (tail : List Value) : Prop where
  bas : Bas B newId initId tail
  cls : ∃ nm q N bs bm sn sub ab col dd k0 k1 k2 k3 k5, K.lookup C = some (excClassObj nm q C N bs bm true sn sub ab col dd k0 k1 k2 k3 k5 newId) ∧ Over tail bm
  set_ : PySem.W.findIn K (.ref C) "__setattr__" = some (some (.builtin "object.__setattr__"))
  sub_ : PySem.W.subIn K (.ref C) (.type "BaseException") = some true
  typ_ : PySem.W.typeIn K (.ref C) = some (.type "type")
  keep_ : PySem.W.keepIn K (.ref C) = true
section
variable {X : Cx} {pins : List (Addr × Obj)} {σ : L2.St} {H : Hp} {s : Shared} {a C dx : Addr} {f : Str} {y : V} {u : Value} {fs : List (Str × V)} {Q : Unit → Shared → Prop} {E : Value → Shared → Prop} {A : Around} {B newId initId : String} {tail : List Value}
theorem OexB.data (T : OexB X.K C B newId initId tail) : ∃ (cd : ClassData) (bm : List Value), PySem.W.clsIn X.K C = some cd ∧ cd.hasDict = true ∧ Over tail bm ∧ cd.mro = .ref C :: bm := by
  obtain ⟨nm, q, N, bs, bm, sn, sub, ab, col, dd, k0, k1, k2, k3, k5, hC, ov⟩ := T.cls
  exact ⟨_, bm, by unfold PySem.W.clsIn; rw [hC] <;> rfl, rfl, ov, rfl⟩
theorem osb_new (T : OexB X.K C B newId initId tail) (I : Inv X pins σ H s) (e : H a = some (exo a C none)) (no : PySem.W.findIn X.K (.ref C) f = some none) (ry : RelV y u)
    (go : ∀ dx s2, H dx = none → dx ≠ a → Inv X pins σ (upd (upd H dx (exd dx [(f, y)])) a (exo a C (some dx))) s2 → Q () s2) : wpAny (model X.prog X.w) A (setAttr (.ref a) f u) Q E s := by
  obtain ⟨cd, bm, hcl, hd, ov, mr⟩ := T.data
  obtain ⟨targs, ho⟩ := exo_at I.hok e
  obtain ⟨hp, g, d, t, os⟩ := s
  refine PySem.W.set_plain I.kIn (ox := { cls := .ref C, dict := none, data := .fields #[.ref targs, .none, .none, .none, .bool false, .none] }) (od := none) ⟨ho, rfl, rfl, trivial⟩ T.set_ ?_
  refine set_new T.bas I.kIn ho hcl (by rw [mr]; exact .step ov) hd no fun h2 tk2 dz keep fresh apart hx hn => ?_
  have nz : H dz = none := I.hok.fresh fresh
  have below : ∀ {b : Addr} {o : Obj}, hp.get? b = some o → b ≠ dz := fun e => Nat.ne_of_lt (Nat.lt_of_lt_of_le (Heap.lt_size e) fresh)
  have offA : ∀ {b : Addr}, H b = none → b ≠ a := fun n z => by
    rw [z, e] at n
    cases n
  have two : ∀ {b : Addr} {o : HO}, H b = some o → b ≠ a → upd (upd H dz (exd dz [(f, y)])) a (exo a C (some dz)) b = some o := fun q n => by
    rw [upd_ne n, upd_ne (ne_of_none q nz)]
    exact q
  have U : Un X.fs [] H (upd (upd H dz (exd dz [(f, y)])) a (exo a C (some dz))) hp h2 := {
    keep := fun b o q n _ _ => keep b o (offA n) q
    slot := fun b o q n _ _ => ⟨o.slots, keep b o (offA n) q⟩
    free := fun b o q n _ => by rw [upd_ne (offA n), upd_ne (below q)]; exact n
    there := fun b o q _ => by
      by_cases c : b = a
      · subst c
        exact ⟨_, hx⟩
      · exact ⟨o, keep b o c q⟩
    tups := fun b xs q => two q (at_ne e q exo_tup)
    frzs := fun b o v q => two q (at_ne e q exo_frz)
    tbls := fun b ps q => ⟨#[], by rw [two q (at_ne e q exo_tbl)]; simp⟩ }
  refine go dz _ nz apart (I.un (t' := tk2) U fun b o q => ?_)
  by_cases hb : b = a
  · rw [hb, upd_same] at q
    cases q
    rw [hb]
    exact exo_ok hx
  · rw [upd_ne hb] at q
    by_cases hd : b = dz
    · rw [hd, upd_same] at q
      cases q
      rw [hd]
      exact exd_ok hn (relO_put (fs := []) ry fun _ => True.intro)
    · rw [upd_ne hd] at q
      refine (I.hok b o q).stay (fun c v hc z => keep c v ?_ z) (fun c hc => two hc (at_ne e hc exo_own)) fun c xs hc => two hc (at_ne e hc exo_tup)
      rcases hc with hc | hc
      · rw [hc]
        exact hb
      · exact at_ne e hc exo_own
theorem osb_old (T : OexB X.K C B newId initId tail) (I : Inv X pins σ H s) (e : H a = some (exo a C (some dx))) (ed : H dx = some (exd dx fs)) (few : fs.length ≤ 900) (no : PySem.W.findIn X.K (.ref C) f = some none) (ry : RelV y u)
    (go : ∀ s2, Inv X pins σ (upd H dx (exd dx ((f, y) :: fs))) s2 → Q () s2) : wpAny (model X.prog X.w) A (setAttr (.ref a) f u) Q E s := by
  obtain ⟨cd, bm, hcl, hd, ov, mr⟩ := T.data
  obtain ⟨targs, ho⟩ := exo_at I.hok e
  obtain ⟨names, hns, rel⟩ := exd_at I.hok ed
  obtain ⟨hp, g, d, t, os⟩ := s
  obtain ⟨od, _, _, hod, _, _⟩ := hns.count (within_of rel)
  refine PySem.W.set_plain I.kIn (ox := { cls := .ref C, dict := some dx, data := .fields #[.ref targs, .none, .none, .none, .bool false, .none] }) (od := some od) ⟨ho, rfl, rfl, hod⟩ T.set_ ?_
  refine set_more T.bas I.kIn ho hns (within_of rel) (by rw [List.length_map]; omega) hcl (by rw [mr]; exact .step ov) hd no fun h2 tk2 keep hn => ?_
  have there : ∃ o, h2.get? dx = some o := let ⟨o, _, _, z, _⟩ := hn; ⟨o, z⟩
  exact go _ (I.write (t' := tk2) (x := dx) (e := dx) (o := exd dx ((f, y) :: fs)) (by rw [ed]; exact True.intro) (.inl rfl) keep there (exd_ok hn (relO_put ry rel)))
end
/-- self.f = e -/
def tOsb (K : PySem.W.Frag) (f : Str) (to te : TE) : TS := fun D σ H => te σ H fun y H1 => to σ H1 fun x H2 => ∃ (a C : Addr) (B newId initId : String) (tail : List Value), x = .ref a ∧ OexB K C B newId initId tail ∧ PySem.W.findIn K (.ref C) f = some none ∧
  ((H2 a = some (exo a C none) ∧ ∀ dz, H2 dz = none → dz ≠ a → D.nx σ (upd (upd H2 dz (exd dz [(f, y)])) a (exo a C (some dz)))) ∨
    ∃ (dz : Addr) (fs : List (Str × V)), H2 a = some (exo a C (some dz)) ∧ H2 dz = some (exd dz fs) ∧ fs.length ≤ 900 ∧ D.nx σ (upd H2 dz (exd dz ((f, y) :: fs))))
section
variable {X : Cx} {o e : Expr} {es : List Expr} {to te : TE} {ta : TA} {f : Str} {p pq p1 p2 pos : Pos}
theorem ps_osb (ho : PE X o to) (he : PE X e te) (hs : swapsWith e (some (.Attribute o f pq)) pos.line X.env = pure false := by rfl) : PS X (.Assign [.Attribute o f pq] e pos) (tOsb X.K f to te) := by
  refine ⟨fun pins s σ H D I want => plainObj_wpAny_Assign_Attribute (thn (he.run pins s σ H _ I want) fun v s1 ⟨y, H1, I1, r1, q1⟩ => thn (ho.run pins s1 σ H1 _ I1 q1) fun u s2 ⟨x, H2, I2, r2, a, C, B, n1, n2, tl, ex, T, no, q⟩ => ?_) hs⟩
  subst ex
  cases (show u = Value.ref a from r2)
  rcases q with ⟨ea, q⟩ | ⟨dx, fs, ea, ed, few, q⟩
  · exact osb_new T I2 ea no r1 fun dx s3 n ne J => ⟨σ, _, J, q dx n ne⟩
  · exact osb_old T I2 ea ed few no r1 fun s3 J => ⟨σ, _, J, q⟩
/-- C(e, ..): C's own __init__ keeps sp -/
theorem pmk_oexb {CX : CXT} {x : Str} {C fI : Addr} {k : Nat} {fd : FuncData} {ps : List Str} {sp : Sp} {ds : List Value} {dvs : List V} {B newId initId : String} {tail : List Value} (T : OexB X.K C B newId initId tail) (iC : PySem.W.findIn X.K (.ref C) "__init__" = some (some (.ref fI))) (tI : PySem.W.typeIn X.K (.ref fI) = some (.type "function"))
    (Fn : FnOk X.prog X.w X.K X.mg X.base CX k fI fd ps sp) (room : Room (k + 1) X.A) (bd : Binds X.K fd ps ds) (hd : Vals dvs ds) (pass : Passes CX X (fun _ _ _ => False)) (hg : Gl X x) (hm : X.mg x = some (.ref C)) (ha : PA X (e :: es) ta)
    (hdb : (x == ("__debug__" : Str)) = false := by decide) (he : starEach (e :: es) X.env = (false, eval e X.env) :: starEach es X.env := by rfl) (hpl : (backTo pos (starEach es X.env)).any (·.1) = false := by rfl) : PMk X (.Call (.Name x p) (e :: es) [] pos) (tMkO C sp dvs ta) := by
  obtain ⟨nm, q, N, bs, bm, sn, sub, ab, col, dd, k0, k1, k2, k3, k5, hC, ov⟩ := T.cls
  refine fun pins s σ H Q I want => wpAny_Call_Name_kw (ld_glob I hg hm (PySem.W.callWith_K (h₀ := X.base) I.ok.mod.kin T.keep_ (thn (ha.run pos pins s σ H _ I want) fun us s1 ⟨vs, H1, I1, r1, hz, q1⟩ => ⟨I1.kIn, ?_⟩) he hpl) hdb)
  show wpAny _ X.A (call (.ref C) us) _ _ _
  obtain ⟨hp, g, dw, tk, os⟩ := s1
  have above : hp.objs.size ≤ hp.objs.size + 1 := Nat.le_add_right _ 1
  have want2 := q1 (hp.objs.size + 1) (I1.hok.fresh above)
  have kept : ∀ b o, hp.get? b = some o → ((hp.push (PySem.W.kdv_tup us)).push (PySem.HandSPX.excO C hp.objs.size)).get? b = some o := fun b o z => Heap.get?_push_of_some _ (Heap.get?_push_of_some _ z)
  have at_ : ((hp.push (PySem.W.kdv_tup us)).push (PySem.HandSPX.excO C hp.objs.size)).get? (hp.objs.size + 1) = some (PySem.HandSPX.excO C hp.objs.size) := by heap_get
  have J : Inv X pins σ (upd H1 (hp.objs.size + 1) (exo (hp.objs.size + 1) C none)) ⟨(hp.push (PySem.W.kdv_tup us)).push (PySem.HandSPX.excO C hp.objs.size), g, dw, tk, os⟩ :=
    I1.laid (t' := tk) (a := hp.objs.size + 1) (o := exo (hp.objs.size + 1) C none) (h' := (hp.push (PySem.W.kdv_tup us)).push (PySem.HandSPX.excO C hp.objs.size)) kept above (exo_ok at_)
  have rel : Vals (V.ref (hp.objs.size + 1) :: (vs ++ dvs)) (Value.ref (hp.objs.size + 1) :: (us ++ ds)) := .cons rfl (r1.append hd)
  have ln : (Value.ref (hp.objs.size + 1) :: us ++ ds).length = ps.length := by
    have z := rel.length
    rw [Fn.len _ _ _ _ want2] at z
    exact z.symm
  have few : us.length ≤ sizeLine := by
    rw [← r1.length, sizeLine_eq]
    omega
  have run := Fn.run _ X.stack _ _ ⟨Value.ref (hp.objs.size + 1) :: us, []⟩ (Value.ref (hp.objs.size + 1) :: (us ++ ds)) _ _ (fun _ _ _ => False) (room.make C us []) (J.env0.make C us []) (bd _ (Value.ref (hp.objs.size + 1) :: us) J.kIn ln) rel want2
  refine wpAny_call (PySem.HandSPX.call_own T.bas.base (fun Y => ov.has Y) (I1.kIn _ _ hC) (PySem.W.looks_findIn I1.kIn iC) (fun self => PySem.W.bind_fn I1.kIn self tI) few (codeAny_mono run fun r s2 got => ?_))
  match r, got with
  | .error er, got => exact pass pins σ _ _ er s2 J got
  | .ok (.ret u), got =>
    obtain ⟨v, H2, os2, bare2, un2, hok2, rv, ev, d, fs, ea, ed, hd1, q2⟩ := got
    subst ev
    obtain ⟨h2, g2, d2, t2, os3⟩ := s2
    exact ⟨rv, mk_end (raises_own T.sub_ T.typ_) I1 above kept un2 hok2 os2 bare2 ea ed hd1 q2⟩
  | .ok .next, got => exact False.elim got
  | .ok .brk, got => exact False.elim got
  | .ok .cont, got => exact False.elim got
end
end Kx
set_option Elab.async false
set_option linter.all false
set_option maxRecDepth 100000
set_option maxHeartbeats 2000000
namespace Kx
open PySem PySem.Spec PyProof.Rows L2
/-- what the written part says of a method f whose first row is super().__init__(..): code at cda, cell at cc, class at D -/
structure SupW (P : Program) (K : PySem.W.Frag) (f cda cc D : Addr) (sc : Scope) (B initId : String) : Prop where
  fn : ∃ (oc : Value) (od : Option Addr) (fd : FuncData) (osl : Array (Option Value)) (ar : Arg), K.lookup f = some ⟨oc, od, .func fd, osl⟩ ∧ (fd.params.posonlyargs ++ fd.params.args).head? = some ar ∧ ar.arg = "self"
  code : ∃ (ol : Value) (od : Option Addr) (vs : Array Value) (os : Array (Option Value)) (file : Str) (tf : Tok), K.lookup cda = some ⟨ol, od, .fields vs, os⟩ ∧ vs[2]? = some (.str file tf) ∧ ((P.main.file : Str) == file) = true
  cell : ∃ (ol : Value) (od : Option Addr) (os : Array (Option Value)), K.lookup cc = some ⟨ol, od, .cell (some (.ref D)), os⟩
  top : (P.main.scope.names.lookup ("super" : Str)).isSome = false
  ks : sc.names.lookup ("super" : Str) = some .globalImplicit
  kc : sc.names.lookup ("__class__" : Str) = some .free
  ka : sc.names.lookup ("self" : Str) = some .local
  kk : sc.kind = .function
  up : PySem.W.ks_superIn K D D "__init__" = some (some (.builtin initId))
  mr : PySem.W.mroIn K D (.ref D) = some true
  ve : PySem.W.subIn K (.ref D) (.type B) = some true
  opq : PySem.W.nsIn K cStatics "thirdparty.any" = some none
section
variable {X : Cx} {pins : List (Addr × Obj)} {σ : L2.St} {H : Hp} {s : Shared} {a D f cda cc : Addr} {q : Str} {B newId initId : String} {tail : List Value}
/-- the wrapper is called -/
theorem mw_call {u : Addr} {us : List Value} {A : Around} {E : Value → Shared → Prop} {Q : Value → Shared → Prop} (T : OexB X.K D B newId initId tail)
    (I : Inv X pins σ H s) (e : H a = some (exo a D none)) (hu : s.heap.get? u = some (PySem.W.kxs_mw initId a)) (hz : us.length ≤ sizeLine)
    (h : ∀ s', Inv X pins σ H s' → Q .none s') : wpAny (model X.prog X.w) A (call (.ref u) us) Q E s := by
  obtain ⟨nm, qn, N, bs, bm, sn, sub, ab, col, dd, k0, k1, k2, k3, k5, hC, hbm⟩ := T.cls
  obtain ⟨args0, ho⟩ := exo_at I.hok e
  have hC1 := I.kIn _ _ hC
  obtain ⟨hp, g, d, t, os⟩ := s
  refine wpAny_call (codeAny_of_tree (show wpAny _ A.in1 (callAny (.ref u) ⟨us, []⟩) _ _ _ from ?_))
  simp only [callAny]
  refine wpAny_bind (wpAny_load hu (PySem.W.KFB.if_so (show ((Value.type "method-wrapper" == .type "method") || (Value.type "method-wrapper" == .type "builtin_function_or_method") || (Value.type "method-wrapper" == .type "method-wrapper")) = true by decide) ?_))
  refine wpAny_bind (PySem.W.check_bound_init T.bas.base.toExcCallFacts hC1 ho rfl (wpAny_bind (wpAny_pure (wpAny_pure ?_))))
  refine ⟨plainId_quiet T.bas.base.init.plain _, codeAny_builtin T.bas.base.initEntry ?_⟩
  refine PySem.W.exc_init_tree (cls := .ref D) (t0 := args0) (dv := none) (c2 := .none) (c3 := .none) (b4 := .bool false) ho hz fun h' k e' _ => ?_
  have J := I.write (t' := t) (x := a) (e := a) (o := exo a D none) (by rw [e]; exact True.intro) (.inl rfl) k ⟨_, e'⟩ (exo_ok e')
  have back : upd H a (exo a D none) = H := by
    funext b
    by_cases hb : b = a
    · rw [hb, upd_same, e]
    · rw [upd_ne hb]
  rw [back] at J
  exact h _ J
/-- super().__init__(e, ..) as a row -/
theorem at_super {body : List Stmt} {e0 : Expr} {es : List Expr} {p0 p1 p2 pos pos' : Pos} {ta : TA} {Q : Flow → Shared → Prop} {j : Nat} {pl : Sem Bool}
    (W : SupW X.prog X.K f cda cc D X.env.scope B initId) (henv : X.env = PySem.W.ksEnv q X.env.scope X.env.locals f (.ref cda) cc) (hsup : X.mg "super" = none)
    (T : OexB X.K D B newId initId tail) (I : Inv X pins σ H s) (hj : X.N[j]? = some ("self" : Str)) (hs : σ[j]? = some (some (.ref a))) (ea : H a = some (exo a D none))
    (ha : PA X (e0 :: es) ta) {R : List V → Hp → Prop} (hq : ta σ H R) (hR : ∀ vs H1, R vs H1 → vs.length ≤ 1000 ∧ H1 a = some (exo a D none) ∧ ∀ s', Inv X pins σ H1 s' → Q .next s')
    (hc : eval (.Call (.Attribute (.Call (.Name "super" p0) [] [] p1) "__init__" p2) (e0 :: es) [] pos) X.env = (do
      let ov ← attributeBase (.Call (.Name "super" p0) [] [] p1) "__init__" X.env (eval (.Call (.Name "super" p0) [] [] p1) X.env)
      standAt p2.atName
      let (g, pre) ← holding [ov] (getMethod ov "__init__" pl)
      callWith pos g pre (backTo pos (starEach (e0 :: es) X.env)) []))
    (he : starEach (e0 :: es) X.env = (false, eval e0 X.env) :: starEach es X.env) (hpl : (backTo pos (starEach es X.env)).any (·.1) = false)
    (hi : interactive X.env = false) (hsw : swapsWith (.Call (.Attribute (.Call (.Name "super" p0) [] [] p1) "__init__" p2) (e0 :: es) [] pos) none pos'.line X.env = pure false) :
    PySem.wpAt (model X.prog X.w) X.A (.func body X.env) (exec (.Expr (.Call (.Attribute (.Call (.Name "super" p0) [] [] p1) "__init__" p2) (e0 :: es) [] pos) pos') X.env) Q X.xe s := by
  obtain ⟨oc, od, fd, osl, ar, hf, har, harg⟩ := W.fn
  obtain ⟨ol, cd, vs, co, file, tf, hcode, hvs, hfile⟩ := W.code
  obtain ⟨cl, cld, csl, hcell⟩ := W.cell
  obtain ⟨nm, qn, N, bs, bm, sn, sub, ab, col, dd, k0, k1, k2, k3, k5, hC, hbm⟩ := T.cls
  have hcl : PySem.W.clsIn X.K D = some { name := nm, bases := bs, mro := .ref D :: bm, ns := N, qualname := qn, hasDict := true, slotNames := sn, subclasses := sub, abstract := ab, collection := col, hasDel := false } := by unfold PySem.W.clsIn; rw [hC] <;> rfl
  have kx := I.kIn
  have hD1 := kx _ _ hC
  obtain ⟨t1, ho⟩ := exo_at I.hok ea
  refine ks_wpAt_Expr_any (ks_wpAt_MethodCall (pl := pl) ?_ hc) hi hsw
  have k1' : X.env.kindOf "super" = some .globalImplicit := W.ks
  have k2' : X.env.kindOf "__class__" = some .free := W.kc
  have efn : X.env.func = some f := by rw [henv]
  have eco : X.env.code = .ref cda := by rw [henv]
  refine ks_wpAt_super_base (env := X.env) k1' k2' (by decide) efn (kx _ _ hf) rfl har eco (kx _ _ hcode) rfl hvs hfile W.top ?_
  obtain ⟨mb, b1, b2⟩ := I.mod.blt
  refine PySem.W.ks_loadName_global W.kk k1' (Calls.loadGlobal_builtin (by rw [I.ok.glob]; exact I.mod.glob.keeps I.bk) hsup (by rw [I.ok.blt]; exact b1.keeps I.bk) ((b2 "super" (by decide)).trans PyProof.Rows.Boot.«super») ⟨rfl, ?_⟩)
  refine wpAny_loadName_free W.kk k2' (c := cc) (by rw [henv]; rfl) ⟨_, kx _ _ hcell, rfl⟩ ?_
  obtain ⟨m, hns, hl⟩ := I.loc
  obtain ⟨u, ru, lk⟩ := hl j "self" (.ref a) hj hs (.inl W.ka)
  obtain rfl : u = .ref a := ru
  have hm : m "self" = some (.ref a) := by
    rcases lk with ⟨_, z⟩ | ⟨z, _⟩
    · exact z
    · have z0 : X.env.kindOf "self" = some .local := W.ka
      rw [z0] at z
      rcases z with z | z <;> cases z
  rw [harg]
  refine wpAny_loadName_local W.kk W.ka hns hm ?_
  obtain ⟨hp, g, d, t, os⟩ := s
  refine ks_wpAny_isType_cls hD1 rfl ⟨rfl, ?_⟩
  refine ks_wpAny_call_super hD1 rfl ho rfl (fun c e => by cases e) (PySem.W.looks_mroIn kx W.mr) (fun h' e k => ?_)
  have I1 : Inv X pins σ H ⟨h', g, d, t, os⟩ := I.kept k
  obtain ⟨t2, ho1⟩ := exo_at I1.hok ea
  have In : PySem.W.InstAt h' a _ D none := ⟨ho1, rfl, rfl, trivial⟩
  have hup := W.up
  unfold PySem.W.ks_superIn at hup
  rw [hcl] at hup
  refine PySem.W.kxs_getMethod T.bas.sup e (PySem.W.looks_opaque I1.kIn W.opq) (l₀ := .ref D :: bm) ?_ rfl I1.kIn hup (In.type.andThen (PySem.W.looks_subIn I1.kIn W.ve)) (PySem.W.ks_ne I1.kIn In hcl) (by decide) ?_
  · exact fun A Q E s k q => wpAny_bind ((PySem.W.looks_clsIn I1.kIn hcl) A _ E s k (wpAny_pure q))
  · have I2 : Inv X pins σ H ⟨h'.push (PySem.W.kxs_mw initId a), g, d, t + 1, os⟩ := I1.kept fun b o z => Heap.get?_push_of_some _ z
    have pu : (h'.push (PySem.W.kxs_mw initId a)).get? h'.objs.size = some (PySem.W.kxs_mw initId a) := Heap.get?_push_at rfl rfl
    have nH : H h'.objs.size = none := I1.hok.fresh (Nat.le_refl _)
    have nL : h'.objs.size ≠ X.env.locals := Nat.ne_of_gt I1.lt
    have nF : h'.objs.size ∉ X.fs := I1.nofs (Nat.le_refl _)
    have I3 : Inv X (pins ++ [(h'.objs.size, PySem.W.kxs_mw initId a)]) σ H ⟨h'.push (PySem.W.kxs_mw initId a), g, d, t + 1, os⟩ := I2.pins_of fun p hp => by
      rcases (List.mem_append.mp hp : _ ∨ _) with z | z
      · exact I2.pin p (List.mem_append_right _ z)
      · rw [List.mem_singleton] at z
        subst z
        exact ⟨pu, nH, nL, nF, fun v e => by cases e⟩
    have run := ha.run pos _ _ σ H _ I3 hq
    show wpAny _ _ (callWith pos (.ref h'.objs.size) [] (backTo pos (starEach (e0 :: es) X.env)) []) _ _ _
    rw [he] at run ⊢
    refine PySem.W.kxs_callWith (i := initId) (x := a) (first := []) (by show (false || (backTo pos (starEach es X.env)).any (·.1)) = false; rw [hpl]; rfl) ?_
    refine PySem.Calls.evalArgs_plain (thn run fun us s1 ⟨ws, H1, J, rel, r1⟩ => ?_)
    obtain ⟨hz, e1, nx⟩ := hR ws H1 r1
    have at1 := (J.pin (h'.objs.size, PySem.W.kxs_mw initId a) (by simp)).1
    have few : us.length ≤ sizeLine := by
      rw [← rel.length, sizeLine_eq]
      omega
    exact ⟨at1, mw_call (us := us) T J.unpinned e1 at1 few fun s' J2 => nx s' J2⟩
end
open NdefX in
/-- such a method, by its rows -/
theorem fnS_of {B newId initId : String} {tail : List Value} {CX : CXT} {P : Program} {w : World} {K : PySem.W.Frag} {mg : Str → Option Value} {base : Heap} {k : Nat} {f cda cc D : Addr} {nm qual : Str} {prs : Arguments} {sc : Scope}
    {dV kV doc pm ct oc : Value} {an od : Option Addr} {osl : Array (Option Value)} {N pr : List Str} {sp : Sp} {e0 : Expr} {es : List Expr} {rest : List Stmt} {p0 p1 p2 pos pos' : Pos}
    (lk : K.lookup f = some ⟨oc, od, .func (PySem.W.ksFn nm qual prs (.Expr (.Call (.Attribute (.Call (.Name "super" p0) [] [] p1) "__init__" p2) (e0 :: es) [] pos) pos' :: rest) sc dV kV doc pm an (.ref cda) ct cc), osl⟩)
    (cin : PySem.W.codeIn K (.ref cda) qual = true) (S : NScope N ("self" :: pr) ["__class__"] sc) (W : SupW P K f cda cc D sc B initId) (T : OexB K D B newId initId tail) (hsup : mg "super" = none)
    (many : ∀ vs H Q E, sp vs H Q E → vs.length = pr.length + 1)
    (rows : ∀ (A : Around) (outer : List Env) (s : Shared) (H : Hp) (vs : List V) (Q : VK) (E : XK) (F : NF),
      F = ⟨nm, qual, prs, .Expr (.Call (.Attribute (.Call (.Name "super" p0) [] [] p1) "__init__" p2) (e0 :: es) [] pos) pos' :: rest, sc, [("__class__", cc)], cda⟩ →
      Room k (A.deeper (envF F f s.heap.objs.size)) → sp vs H Q E →
      ∃ (a : Addr) (vr : List V) (ta : TA) (t : TS), vs = .ref a :: vr ∧ H a = some (exo a D none) ∧ PA (ncx CX P w K mg base N F f A outer s H E) (e0 :: es) ta ∧ PSs (ncx CX P w K mg base N F f A outer s H E) rest t ∧
        ta (startF N vs [none]) H fun ws H1 => ws.length ≤ 1000 ∧ H1 a = some (exo a D none) ∧ t { nx := fun _ H' => Q .non H', rt := Q } (startF N vs [none]) H1)
    (hc : ∀ env : Env, ∃ pl, eval (.Call (.Attribute (.Call (.Name "super" p0) [] [] p1) "__init__" p2) (e0 :: es) [] pos) env = (do
      let ov ← attributeBase (.Call (.Name "super" p0) [] [] p1) "__init__" env (eval (.Call (.Name "super" p0) [] [] p1) env)
      standAt p2.atName
      let (g, pre) ← holding [ov] (getMethod ov "__init__" pl)
      callWith pos g pre (backTo pos (starEach (e0 :: es) env)) []) := by intro env; exact ⟨_, rfl⟩)
    (he : ∀ env : Env, starEach (e0 :: es) env = (false, eval e0 env) :: starEach es env := by intro env; rfl) (hpl : ∀ env : Env, (backTo pos (starEach es env)).any (·.1) = false := by intro env; rfl)
    (hsw : ∀ env : Env, swapsWith (.Call (.Attribute (.Call (.Name "super" p0) [] [] p1) "__init__" p2) (e0 :: es) [] pos) none pos'.line env = pure false := by intro env; rfl) :
    FnOk P w K mg base CX (k + 1) f (PySem.W.ksFn nm qual prs (.Expr (.Call (.Attribute (.Call (.Name "super" p0) [] [] p1) "__init__" p2) (e0 :: es) [] pos) pos' :: rest) sc dV kV doc pm an (.ref cda) ct cc) ("self" :: pr) sp := by
  refine ⟨many, fun A outer s H args us vs Q E room en bt rel want => ?_⟩
  have ln := many _ _ _ _ want
  have kin : K.In s.heap := en.mod.kin.keeps fun b o e => (en.bs b o e).1
  have nolim : s.heap.NoLimit := en.mod.nolimit.keeps fun b o e => (en.bs b o e).1
  obtain ⟨cl, cld, csl, hcell⟩ := W.cell
  have cells : CellsAt [(("__class__" : Str), cc)] [("__class__" : Str)] [none] s.heap H := by
    have here : H cc = none ∧ ∃ v, s.heap.IsCell cc v := ⟨(en.bs cc _ (en.mod.kin _ _ hcell)).2, _, ⟨_, kin _ _ hcell, rfl⟩⟩
    have only : ∀ (y : Str) (c : Addr), List.lookup y [(("__class__" : Str), cc)] = some c → y = "__class__" ∧ c = cc := fun y c z => by
      have m := PySem.mem_of_lookup z
      rw [List.mem_singleton] at m
      cases m
      exact ⟨rfl, rfl⟩
    refine ⟨rfl, fun y c z => ?_, fun x y c z1 z2 => (only x c z1).1.trans (only y c z2).1.symm, fun i y z => ?_⟩
    · obtain ⟨_, rfl⟩ := only y c z
      exact here
    · cases i with
      | zero =>
        cases z
        exact ⟨cc, rfl, fun v ev => by cases ev⟩
      | succ i => cases z
  obtain ⟨a, vr, ta, t, rfl, ea, pa, ps, q⟩ := rows A outer s H vs Q E _ rfl (room.deeper _) want
  refine ks_codeAny_call_defAt room.depth (kin _ _ lk) rfl nolim (PySem.W.codeRec_of kin cin) rfl bt S.nocell (fun ⟨n, _⟩ hy => S.par n (List.of_mem_zip hy).1) (fun h1 hns kp => ?_) S.co S.gen S.kind
  have I : Inv (ncx CX P w K mg base N ⟨nm, qual, prs, .Expr (.Call (.Attribute (.Call (.Name "super" p0) [] [] p1) "__init__" p2) (e0 :: es) [] pos) pos' :: rest, sc, [("__class__", cc)], cda⟩ f A outer s H E) [] (startF N (.ref a :: vr) [none]) H
      { s with heap := h1, toks := s.toks + ((("self" : Str) :: pr).zip us).length } := inv_startN S room.hd en ln rel cells hns kp
  obtain ⟨pl, hpc⟩ := hc (envF ⟨nm, qual, prs, .Expr (.Call (.Attribute (.Call (.Name "super" p0) [] [] p1) "__init__" p2) (e0 :: es) [] pos) pos' :: rest, sc, [("__class__", cc)], cda⟩ f s.heap.objs.size)
  have hj : N[0]? = some ("self" : Str) := by
    have z : (N.take ((("self" : Str) :: pr).length + [("__class__" : Str)].length))[0]? = some ("self" : Str) := by rw [S.pre]; rfl
    rw [List.getElem?_take_of_lt (by simp)] at z
    exact z
  refine ks_wpAt_execs_cons (ks_wpAt_mono (at_super (j := 0) (a := a) (q := qual) W rfl hsup T I hj rfl ea pa q (Q := fun fl s' => fl = .next ∧ ∃ H1, t { nx := fun _ H' => Q .non H', rt := Q } (startF N (.ref a :: vr) [none]) H1 ∧ Inv _ [] (startF N (.ref a :: vr) [none]) H1 s')
    (fun ws H1 ⟨z1, z2, z3⟩ => ⟨z1, z2, fun s' J => ⟨rfl, H1, z3, J⟩⟩) hpc (he _) (hpl _) I.quiet (hsw _)) (fun fl s' hz => ?_) fun e s' hz => hz)
  obtain ⟨rfl, H1, q1, J⟩ := hz
  refine wpAt_of_wpAny (wpAny_mono (ps.run [] s' _ H1 _ J q1) (fun fl s2 hz => ?_) fun e s2 hz => hz)
  cases fl with
  | ret u =>
    obtain ⟨v, σ', H', J, rv, q⟩ := hz
    exact (⟨v, H', J.os, J.bare, J.base, J.hok, rv, q⟩ : CE outer P w H s Q u s2)
  | next =>
    obtain ⟨σ', H', J, q⟩ := hz
    exact (⟨V.non, H', J.os, J.bare, J.base, J.hok, rfl, q⟩ : CE outer P w H s Q Value.none s2)
  | brk =>
    obtain ⟨_, _, _, no⟩ := hz
    exact no.elim
  | cont =>
    obtain ⟨_, _, _, no⟩ := hz
    exact no.elim
end Kx
set_option Elab.async false
set_option linter.all false
set_option maxRecDepth 100000
set_option maxHeartbeats 2000000
namespace Kx
open PySem PySem.Spec PyProof.Rows L2 NdefX
/-- the row super().__init__(text) -/
abbrev rowSup (txt : Str) (j : Nat) (p0 p1 p2 p3 p4 p5 : Pos) : Stmt := .Expr (.Call (.Attribute (.Call (.Name "super" p0) [] [] p1) "__init__" p2) [.Constant (.str txt) j p3] [] p4) p5
/-- the row self.f = kept(x) -/
abbrev rowFld (f x : Str) (p0 p1 p2 p3 p4 p5 : Pos) : Stmt := .Assign [.Attribute (.Name "self" p0) f p1] (.Call (.Name "kept" p2) [.Name x p3] [] p4) p5
/-- how super().__init__(e) is evaluated: told where the positions are known -/
def SupEv (e : Expr) (p0 p1 p2 pos : Pos) : Prop := ∀ env : Env, ∃ pl, eval (.Call (.Attribute (.Call (.Name "super" p0) [] [] p1) "__init__" p2) [e] [] pos) env = (do
  let ov ← attributeBase (.Call (.Name "super" p0) [] [] p1) "__init__" env (eval (.Call (.Name "super" p0) [] [] p1) env)
  standAt p2.atName
  let (g, pre) ← holding [ov] (getMethod ov "__init__" pl)
  callWith pos g pre (backTo pos (starEach [e] env)) [])
/-- the words of such a method, as they stand behind the top -/
structure InitW (P : Program) (K : PySem.W.Frag) (qual : Str) (prs : Arguments) (body : List Stmt) (sc : Scope) (f D : Addr) (fd : FuncData) (B initId : String) : Prop where
  ex : ∃ (oc : Value) (od an : Option Addr) (osl : Array (Option Value)) (kV doc pm ct : Value) (cda cc : Addr), fd = PySem.W.ksFn "__init__" qual prs body sc .none kV doc pm an (.ref cda) ct cc ∧
    K.lookup f = some ⟨oc, od, .func (PySem.W.ksFn "__init__" qual prs body sc .none kV doc pm an (.ref cda) ct cc), osl⟩ ∧ PySem.W.codeIn K (.ref cda) qual = true ∧ SupW P K f cda cc D sc B initId
section
variable {P : Program} {w : World} {K : PySem.W.Frag} {mg : Str → Option Value} {base : Heap} {CX : CXT} {qual txt fl x fl2 x2 : Str} {prs : Arguments} {sc : Scope} {f D fK : Addr} {fd fdK : FuncData} {spk : Sp} {k : Nat} {ds : List Value}
  {B newId initId : String} {tail : List Value} {jx : Nat} {a0 a1 a2 a3 a4 a5 b0 b1 b2 b3 b4 b5 c0 c1 c2 c3 c4 c5 : Pos}
def spErr1 (D : Addr) (fl : Str) (spk : Sp) : Sp := fun vs H Q _ => ∃ (a : Addr) (v : V), vs = [.ref a, v] ∧ H a = some (exo a D none) ∧
  spk [v, .int 5] H (fun v' H' => H' a = some (exo a D none) ∧ ∀ dx, H' dx = none → dx ≠ a → Q .non (upd (upd H' dx (exd dx [(fl, v')])) a (exo a D (some dx)))) E0
theorem ok_err1 (F : InitW P K qual prs [rowSup txt jx a0 a1 a2 a3 a4 a5, rowFld fl x b0 b1 b2 b3 b4 b5] sc f D fd B initId) (S : NScope ["self", x, "__class__"] ["self", x] ["__class__"] sc) (T : OexB K D B newId initId tail) (hsup : mg "super" = none)
    (no : PySem.W.findIn K (.ref D) fl = some none) (FK : FnOk P w K mg base CX0 k fK fdK ["value", "levels"] spk) (hm : mg "kept" = some (.ref fK)) (hk : PySem.W.keepIn K (.ref fK) = true) (hb : Binds K fdK ["value", "levels"] ds) (hd : Vals [.int 5] ds)
    (mono : ∀ (vs : List V) (H : Hp) (Q Q' : VK) (E : XK), (∀ v H', Q v H' → Q' v H') → spk vs H Q E → spk vs H Q' E)
    (hg : sc.names.lookup ("kept" : Str) = some .globalImplicit) (hx : (x == ("__debug__" : Str)) = false) (hx2 : (x == ("__classdict__" : Str)) = false) (hx3 : sc.names.lookup x = some .local) (hc : SupEv (.Constant (.str txt) jx a3) a0 a1 a2 a4) :
    FnOk P w K mg base CX0 (k + 1) f fd ["self", x] (spErr1 D fl spk) := by
  obtain ⟨oc, od, an, osl, kV, doc, pm, ct, cda, cc, rfl, lk, cin, W⟩ := F.ex
  refine fnS_of lk cin S W T hsup (fun vs H Q E h => ?_) (fun A outer s H vs Q E G eG hr h => ?_) hc
  · obtain ⟨a, v, rfl, _⟩ := h
    rfl
  · obtain ⟨a, v, rfl, ea, q⟩ := h
    subst eG
    refine ⟨a, [v], _, _, rfl, ea, pa_cons pe_str pa_nil, pss_one (ps_osb (pv 0 rfl (.inl W.ka)) (pe_call FK hr (by exact hg) hm hk hb hd pass0 (pa_cons (pv 1 rfl (.inl hx3) hx hx2) pa_nil))), ?_⟩
    refine ⟨Nat.le_of_lt (by decide : 1 < 1000), ea, v, rfl, ?_⟩
    refine mono _ _ _ _ _ (fun v' H' z => ?_) q
    obtain ⟨e1, nx⟩ := z
    exact ⟨.ref a, rfl, a, D, _, _, _, _, rfl, T, no, .inl ⟨e1, nx⟩⟩
/-- how its arguments bind -/
theorem InitW.binds {body : List Stmt} {ps : List Str} (F : InitW P K qual prs body sc f D fd B initId)
    (h : ∀ (kV doc pm : Value) (an : Option Addr) (cdv ct : Value) (cc : Addr) (us : List Value), us.length = ps.length → bindArgs (PySem.W.ksFn "__init__" qual prs body sc .none kV doc pm an cdv ct cc) ⟨us, []⟩ = pure (ps.zip us)) : Binds K fd ps [] := by
  obtain ⟨oc, od, an, osl, kV, doc, pm, ct, cda, cc, rfl, lk, cin, W⟩ := F.ex
  exact .all (h kV doc pm an _ ct cc)
end
end Kx
set_option Elab.async false
set_option linter.all false
set_option maxRecDepth 100000
set_option maxHeartbeats 2000000
namespace Kx
open PySem PySem.Spec PyProof.Rows L2
section
variable {X : Cx} {a D dd : Addr} {oe : Obj} {pn : List (Addr × Obj)} {cls : Value} {d : Option Addr}
theorem xinst {pins : List (Addr × Obj)} {σ : L2.St} {H : Hp} {s : Shared} {fs : List (Str × V)} (I : Inv (X.suite a ((a, oe) :: pn)) pins σ H s) (hz : Zc (.ref D) (some dd) oe) (hf : ∃ vs, oe.data = .fields vs) (hx : H dd = some (.xd fs)) :
    ∃ od, PySem.W.InstAt s.heap a oe D (some od) := by
  obtain ⟨ha, _⟩ := I.pin (a, oe) (List.mem_append_left _ List.mem_cons_self)
  obtain ⟨vs, hd⟩ := hf
  have ok : ObjOk X.prog X.w H s.heap dd (.xd fs) := I.hok dd _ hx
  obtain ⟨mA, hns, _⟩ := ok
  obtain ⟨od, ho, _⟩ := lookIn_ns hns
  exact ⟨od, ha, hz.1, by unfold PySem.W.notCls; rw [hd] <;> rfl, by rw [hz.2]; exact ho⟩
/-- isinstance(e, c) -/
def rIsX (K : PySem.W.Frag) (a : Addr) (cls : Value) (d : Option Addr) : List V → Hp → VK → Prop := fun xs H Q => ∃ (c : V) (u : Value) (D dd : Addr) (fs : List (Str × V)) (b : Bool), xs = [.ref a, c] ∧ ClsV c u ∧ cls = .ref D ∧ d = some dd ∧ ExcC K D ∧ H dd = some (.xd fs) ∧ PySem.W.kitOne K (.ref D) u = some b ∧ Q (.bl b) H
/-- isinstance(e, (c1, c2, ..)) -/
def rIsXT (K : PySem.W.Frag) (a : Addr) (cls : Value) (d : Option Addr) : List V → Hp → VK → Prop := fun xs H Q => ∃ (tp : Addr) (cs : List V) (us : List Value) (D dd : Addr) (fs : List (Str × V)) (b : Bool), xs = [.ref a, .ref tp] ∧ H tp = some (.tup cs) ∧ Paired ClsV cs us ∧
  cls = .ref D ∧ d = some dd ∧ ExcC K D ∧ H dd = some (.xd fs) ∧ PySem.W.kitAny K (.ref D) us = some b ∧ Q (.bl b) H
theorem has_cls {K : PySem.W.Frag} (C : ExcC K D) : (PySem.W.clsIn K D).isSome = true := by
  obtain ⟨cd, hc, _⟩ := PySem.W.any_some C.hd
  rw [hc]
  rfl
theorem call_isX (hz : Zc cls d oe) (hf : ∃ vs, oe.data = .fields vs) : CallR (X.suite a ((a, oe) :: pn)) (.builtin "isinstance") (rIsX X.K a cls d) := by
  intro pins s σ H xs us Q I rel want
  obtain ⟨c, u, D, dd, fs, b, rfl, k, rfl, rfl, C, hx, e, q⟩ := want
  obtain ⟨_, u2, rfl, (rfl : _ = Value.ref a), r2⟩ := vals2 rel
  have e2 := k.eq r2
  subst e2
  obtain ⟨od, J⟩ := xinst I hz hf hx
  exact PySem.W.kia_one (PySem.W.kitx_exc (has_cls C) C.hg C.hk C.hs C.ha C.hn C.ht C.hm) I.kIn J e (fun z => nomatch z) fun tk => ⟨.bl b, H, I.tok tk, rfl, q⟩
theorem call_isXT (hz : Zc cls d oe) (hf : ∃ vs, oe.data = .fields vs) : CallR (X.suite a ((a, oe) :: pn)) (.builtin "isinstance") (rIsXT X.K a cls d) := by
  intro pins s σ H xs us Q I rel want
  obtain ⟨tp, cs, ws, D, dd, fs, b, rfl, hT, k, rfl, rfl, C, hx, e, q⟩ := want
  obtain ⟨_, u2, rfl, (rfl : _ = Value.ref a), r2⟩ := vals2 rel
  obtain rfl : u2 = .ref tp := r2
  obtain ⟨od, J⟩ := xinst I hz hf hx
  have tupAt : ObjOk X.prog X.w H s.heap tp (.tup cs) := I.hok tp _ hT
  obtain ⟨_, its, rv, ⟨_, _, _, _⟩, at_, c0, n, d0⟩ := tupAt
  obtain rfl := ClsV.all k rv
  dsimp only at c0 d0
  subst c0 d0
  exact PySem.W.kia_tup (PySem.W.kitx_exc (has_cls C) C.hg C.hk C.hs C.ha C.hn C.ht C.hm) I.kIn J at_ e (fun z => nomatch z) fun tk => ⟨.bl b, H, I.tok tk, rfl, q⟩
end
end Kx
set_option Elab.async false
set_option linter.all false
set_option maxRecDepth 100000
namespace Tr
open PySem PySem.Spec PyProof.Rows L2 Evl Kc LamX
abbrev D := PyData
def kD : Key → D
  | .inl i => .int i
  | .inr x => .str x
mutual
/-- the value v is the tree d, in the part G of the heap that stays -/
inductive Rp (K : PySem.W.Frag) (G : Hp) : V → D → Prop
  | non : Rp K G .non .none
  | bl (b : Bool) : Rp K G (.bl b) (.bool b)
  | int (i : Int) : Rp K G (.int i) (.int i)
  | str (x : Str) : Rp K G (.str x) (.str x)
  | lst {a : Addr} {xs : List V} {ds : List D} : G a = some (.lst xs) → Rps K G xs ds → Rp K G (.ref a) (.list ds)
  | tup {a : Addr} {xs : List V} {ds : List D} : SqT K G a xs → Rps K G xs ds → Rp K G (.ref a) (.tuple ds)
  | dct {a : Addr} {kvs : List (Key × V)} {es : List (D × D)} : G a = some (.dK kvs) → Rpk K G kvs es → Rp K G (.ref a) (.dict es)
inductive Rps (K : PySem.W.Frag) (G : Hp) : List V → List D → Prop
  | nil : Rps K G [] []
  | cons {v : V} {d : D} {vs : List V} {ds : List D} : Rp K G v d → Rps K G vs ds → Rps K G (v :: vs) (d :: ds)
inductive Rpk (K : PySem.W.Frag) (G : Hp) : List (Key × V) → List (D × D) → Prop
  | nil : Rpk K G [] []
  | cons {k : Key} {v : V} {d : D} {vs : List (Key × V)} {ds : List (D × D)} : Rp K G v d → Rpk K G vs ds → Rpk K G ((k, v) :: vs) ((kD k, d) :: ds)
end
section
variable {K : PySem.W.Frag} {G G' H H' : Hp}
mutual
theorem Rp.mono (e : Ex G G') : ∀ {v : V} {d : D}, Rp K G v d → Rp K G' v d
  | _, _, .non => .non
  | _, _, .bl b => .bl b
  | _, _, .int i => .int i
  | _, _, .str x => .str x
  | _, _, .lst h a => .lst (e _ _ h) (Rps.mono e a)
  | _, _, .tup h a => .tup (ex_t e h) (Rps.mono e a)
  | _, _, .dct h a => .dct (e _ _ h) (Rpk.mono e a)
theorem Rps.mono (e : Ex G G') : ∀ {v : List V} {d : List D}, Rps K G v d → Rps K G' v d
  | _, _, .nil => .nil
  | _, _, .cons h a => .cons (Rp.mono e h) (Rps.mono e a)
theorem Rpk.mono (e : Ex G G') : ∀ {v : List (Key × V)} {d : List (D × D)}, Rpk K G v d → Rpk K G' v d
  | _, _, .nil => .nil
  | _, _, .cons h a => .cons (Rp.mono e h) (Rpk.mono e a)
end
theorem Rps.len : ∀ {v : List V} {d : List D}, Rps K G v d → v.length = d.length
  | _, _, .nil => rfl
  | _, _, .cons _ a => congrArg (· + 1) (Rps.len a)
theorem Rpk.len : ∀ {v : List (Key × V)} {d : List (D × D)}, Rpk K G v d → v.length = d.length
  | _, _, .nil => rfl
  | _, _, .cons _ a => congrArg (· + 1) (Rpk.len a)
theorem Rps.get : ∀ {vs : List V} {ds : List D} {i : Nat} {d : D}, Rps K G vs ds → ds[i]? = some d → ∃ v, vs[i]? = some v ∧ Rp K G v d
  | _, _, i, _, .nil, e => by cases i <;> cases e
  | _, _, 0, _, .cons h _, e => by cases Option.some.inj e; exact ⟨_, rfl, h⟩
  | _, _, i + 1, _, .cons _ a, e => Rps.get (i := i) a e
theorem Rps.app : ∀ {v w : List V} {d e : List D}, Rps K G v d → Rps K G w e → Rps K G (v ++ w) (d ++ e)
  | _, _, _, _, .nil, b => b
  | _, _, _, _, .cons h a, b => .cons h (Rps.app a b)
theorem Rps.take : ∀ {v : List V} {d : List D} (n : Nat), Rps K G v d → Rps K G (v.take n) (d.take n)
  | _, _, 0, _ => .nil
  | _, _, _ + 1, .nil => .nil
  | _, _, n + 1, .cons h a => .cons h (Rps.take n a)
theorem Rps.drop : ∀ {v : List V} {d : List D} (n : Nat), Rps K G v d → Rps K G (v.drop n) (d.drop n)
  | _, _, 0, a => a
  | _, _, _ + 1, .nil => .nil
  | _, _, n + 1, .cons h a => Rps.drop n a
theorem Rps.set {x : V} {y : D} (r : Rp K G x y) : ∀ {v : List V} {d : List D} (n : Nat), Rps K G v d → Rps K G (v.set n x) (d.set n y)
  | _, _, _, .nil => .nil
  | _, _, 0, .cons h a => .cons r a
  | _, _, n + 1, .cons h a => .cons h (Rps.set r n a)
theorem Rps.eraseIdx : ∀ {v : List V} {d : List D} (n : Nat), Rps K G v d → Rps K G (v.eraseIdx n) (d.eraseIdx n)
  | _, _, _, .nil => .nil
  | _, _, 0, .cons h a => a
  | _, _, n + 1, .cons h a => .cons h (Rps.eraseIdx n a)
theorem Rps.rev : ∀ {v : List V} {d : List D}, Rps K G v d → Rps K G v.reverse d.reverse
  | _, _, .nil => .nil
  | _, _, .cons h a => by
    simp only [List.reverse_cons]
    exact Rps.app (Rps.rev a) (.cons h .nil)
end
inductive AV where
  /-- a tree that stays as it is -/
  | dat (d : D)
  /-- a list or dict that only this slot knows; par: it came as an argument -/
  | own (par : Bool) (d : D)
  /-- a pot of draws that only this slot knows -/
  | pot (par : Bool)
  /-- an instance of the class at C whose fields stay -/
  | obj (C : Addr) (fs : List (Str × D))
  | raw (v : V)
  /-- the law's list of ints, which is only read -/
  | scr (ns : List Int)
  /-- a caught error of the class at C; its fields stand at dd -/
  | exn (a C dd : Addr) (fs : List (Str × D))
  /-- a lambda that was handed over; Gc: what stayed as it was made -/
  | clo (f : Addr) (Gc : Hp)
  /-- as a value: what slot i owns -/
  | at (i : Nat)
abbrev S := List (Option AV)
def AV.isOwn : AV → Bool
  | .own _ _ => true
  | .pot _ => true
  | _ => false
def AV.isPar : AV → Bool
  | .own p _ => p
  | .pot p => p
  | _ => false
theorem AV.par_own {a : AV} (h : a.isPar = true) : a.isOwn = true := by cases a <;> first | rfl | cases h
/-- the fields of an instance or an error -/
abbrev Flds (K : PySem.W.Frag) (G : Hp) : List (Str × V) → List (Str × D) → Prop := Paired fun p q => p.1 = q.1 ∧ Rp K G p.2 q.2
theorem Flds.mono {K : PySem.W.Frag} {G G' : Hp} (e : Ex G G') {vs : List (Str × V)} {fs : List (Str × D)} (h : Flds K G vs fs) : Flds K G' vs fs := L2.Paired.mapP h fun _ _ z => ⟨z.1, z.2.mono e⟩
def Own (K : PySem.W.Frag) (G H : Hp) (p : Addr) : D → Prop
  | .list ds => ∃ xs, H p = some (.lst xs) ∧ Rps K G xs ds
  | .dict es => ∃ kvs, H p = some (.dK kvs) ∧ Rpk K G kvs es
  | _ => False
/-- what is owned stands at p -/
def Stands (K : PySem.W.Frag) (G H : Hp) (p : Addr) : AV → Prop
  | .own _ d => Own K G H p d
  | .pot _ => Pot H p
  | _ => False
def Hold (K : PySem.W.Frag) (G H : Hp) : AV → V → Prop
  | .dat d, v => Rp K G v d
  | .own b d, v => ∃ p, v = .ref p ∧ G p = none ∧ Stands K G H p (.own b d)
  | .pot b, v => ∃ p, v = .ref p ∧ G p = none ∧ Stands K G H p (.pot b)
  | .obj C fs, v => ∃ a dx vs, v = .ref a ∧ G a = some (.ins C dx vs) ∧ Flds K G vs fs
  | .raw u, v => v = u
  | .scr ns, v => ∃ a, v = .ref a ∧ SqL K G a (ns.map V.int)
  | .exn a C dd fs, v => v = .ref a ∧ ∃ vs, G dd = some (.xd vs) ∧ Flds K G vs fs
  | .clo f Gc, v => v = .ref f ∧ Ex Gc G
  | .at _, _ => False
section
variable {K : PySem.W.Frag} {G G' H H' : Hp} {p : Addr} {a : AV} {v : V} {d : D}
theorem Own.mono (e : Ex G G') (h : Own K G H p d) (st : H' p = H p) : Own K G' H' p d := by
  cases d <;> first
    | exact h.elim
    | (obtain ⟨xs, h1, h2⟩ := h; exact ⟨xs, st.trans h1, h2.mono e⟩)
theorem Own.some (h : Own K G H p d) : H p ≠ none := by
  cases d <;> first
    | exact h.elim
    | (obtain ⟨xs, h1, h2⟩ := h; rw [h1]; exact nofun)
theorem Stands.mono (e : Ex G G') (h : Stands K G H p a) (st : H' p = H p) : Stands K G' H' p a := by
  cases a with
  | own b d => exact Own.mono e h st
  | pot b => obtain ⟨x, y, h1, h2, h3, h4⟩ := (show Pot H p from h); exact ⟨x, y, h1, h2, h3, st.trans h4⟩
  | _ => exact h.elim
theorem Stands.some (h : Stands K G H p a) : H p ≠ none := by
  cases a with
  | own b d => exact Own.some h
  | pot b => obtain ⟨x, y, h1, h2, h3, h4⟩ := (show Pot H p from h); rw [h4]; exact nofun
  | _ => exact h.elim
theorem Hold.own (h : Hold K G H a v) (o : a.isOwn = true) : ∃ p, v = .ref p ∧ G p = none ∧ Stands K G H p a := by
  cases a with
  | own b d => exact h
  | pot b => exact h
  | _ => cases o
theorem Hold.of_own (o : a.isOwn = true) (g : G p = none) (h : Stands K G H p a) : Hold K G H a (.ref p) := by
  cases a with
  | own b d => exact ⟨p, rfl, g, h⟩
  | pot b => exact ⟨p, rfl, g, h⟩
  | _ => cases o
/-- what is not owned stays with G -/
theorem Hold.still (e : Ex G G') (h : Hold K G H a v) (o : a.isOwn = false) : Hold K G' H' a v := by
  cases a with
  | dat d => exact Rp.mono e h
  | obj C fs => obtain ⟨x, dx, vs, h1, h2, h3⟩ := h; exact ⟨x, dx, vs, h1, e _ _ h2, Flds.mono e h3⟩
  | raw u => exact h
  | scr ns => obtain ⟨a, h1, h2⟩ := h; exact ⟨a, h1, ex_l e h2⟩
  | exn x C dd fs => obtain ⟨h1, vs, h2, h3⟩ := h; exact ⟨h1, vs, e _ _ h2, Flds.mono e h3⟩
  | clo f Gc => exact ⟨h.1, h.2.trans e⟩
  | «at» i => exact h.elim
  | _ => cases o
end
/-- no table, no code object that a table tells -/
def Soft (H : Hp) (p : Addr) : Prop := (∀ qs, H p ≠ some (.tbl qs)) ∧ ∀ q, H p ≠ some (CodeO p q)
theorem mut_none {H : Hp} {p : Addr} (h : H p = none) : Soft H p := ⟨(fun _ z => by rw [h] at z; cases z), (fun _ z => by rw [h] at z; cases z)⟩
theorem mut_of {H : Hp} {p : Addr} {o : HO} (h : H p = some o) (n : ∀ qs, o ≠ .tbl qs) (c : ∀ φ, o ≠ .ext φ) : Soft H p := ⟨(fun _ z => by rw [h] at z; exact n _ (Option.some.inj z)), (fun _ z => by rw [h] at z; exact c _ (Option.some.inj z))⟩
theorem mut_lst {H : Hp} {p : Addr} {xs : List V} (h : H p = some (.lst xs)) : Soft H p := mut_of h nofun nofun
theorem pot_mut {H : Hp} {p : Addr} (h : Pot H p) : Soft H p := by
  obtain ⟨x, y, _, _, _, s1⟩ := h
  exact mut_lst s1
theorem Stands.mut {K : PySem.W.Frag} {G H : Hp} {p : Addr} {a : AV} (h : Stands K G H p a) : Soft H p := by
  cases a with
  | own b d =>
    cases d with
    | list ds => obtain ⟨xs, s1, _⟩ := (show Own K G H p (.list ds) from h); exact mut_lst s1
    | dict es => obtain ⟨xs, s1, _⟩ := (show Own K G H p (.dict es) from h); exact mut_of s1 nofun nofun
    | _ => exact (show False from h).elim
  | pot b => exact pot_mut h
  | _ => exact h.elim
/-- the name that the lambdas of the def have whose code object has its table at P -/
def tabName : PySem.W.Frag → Addr → Option Str
  | [], _ => none
  | (_, o) :: r, P => match o.data with
    | .fields vs => match (vs[11]? : Option Value) with
      | some (.ref p) => if p = P then match (vs[1]? : Option Value) with
          | some (.str n _) => some ((n ++ ".<locals>.") ++ "<lambda>")
          | _ => none
        else tabName r P
      | _ => tabName r P
    | _ => tabName r P
abbrev TN (K : PySem.W.Frag) : Addr → Str → Prop := fun P q => tabName K P = some q
/-- all but ps stays, and the tables, which may only grow; N: the names told -/
structure Kept (N : Addr → Str → Prop) (ps : List Addr) (H0 H : Hp) : Prop where
  but : ∀ b o, b ∉ ps → H0 b = some o → (∀ qs, o ≠ .tbl qs) → H b = some o
  tbls : ∀ b qs, H0 b = some (.tbl qs) → ∃ more, H b = some (.tbl (qs ++ more))
  tabs : ∀ P q, N P q → TabS H0 P q → TabS H P q
theorem tabS_upd {H : Hp} {p P : Addr} {o : HO} {q : Str} (t : TabS H P q) (m : Soft H p) : TabS (upd H p o) P q := by
  obtain ⟨ps, h1, h2, h3⟩ := t
  refine ⟨ps, by rw [upd_ne fun z => m.1 ps (by rw [← z]; exact h1)]; exact h1, h2, fun pos cv hc => ?_⟩
  obtain ⟨cd, e1, e2⟩ := h3 pos cv hc
  exact ⟨cd, e1, by rw [upd_ne fun z => m.2 q (by rw [← z]; exact e2)]; exact e2⟩
theorem Kept.refl {N : Addr → Str → Prop} {ps : List Addr} {H : Hp} : Kept N ps H H := ⟨fun _ _ _ h _ => h, fun _ _ h => ⟨#[], by rw [h]; simp⟩, fun _ _ _ h => h⟩
theorem Kept.any {N : Addr → Str → Prop} {ps : List Addr} {H0 H : Hp} (k : Kept N ps H0 H) {b : Addr} {o : HO} (n : b ∉ ps) (h : H0 b = some o) : ∃ u, H b = some u := by
  cases o with
  | tbl qs => obtain ⟨m, e⟩ := k.tbls b qs h; exact ⟨_, e⟩
  | _ => exact ⟨_, k.but b _ n h nofun⟩
theorem Kept.upd {N : Addr → Str → Prop} {ps : List Addr} {H0 H : Hp} {p : Addr} {o : HO} (k : Kept N ps H0 H) (z : p ∈ ps ∨ H0 p = none) (m : Soft H p) : Kept N ps H0 (upd H p o) := by
  refine ⟨fun b u h1 h2 h3 => ?_, fun b qs h => ?_, fun P q n t => tabS_upd (k.tabs P q n t) m⟩
  · have ne : b ≠ p := fun e => by
      rcases z with z | z
      · exact h1 (by rw [e]; exact z)
      · rw [e, z] at h2
        cases h2
    rw [upd_ne ne]
    exact k.but b u h1 h2 h3
  · obtain ⟨more, e⟩ := k.tbls b qs h
    exact ⟨more, by rw [upd_ne fun z => m.1 _ (by rw [← z]; exact e)]; exact e⟩
theorem Kept.same {N : Addr → Str → Prop} {ps : List Addr} {H0 H H' : Hp} (k : Kept N ps H0 H) (s : ∀ b o, H b = some o → H' b = some o) : Kept N ps H0 H' :=
  ⟨fun b o h1 h2 h3 => s b o (k.but b o h1 h2 h3), fun b qs h => let ⟨more, e⟩ := k.tbls b qs h; ⟨more, s _ _ e⟩, fun P q n t => (k.tabs P q n t).ext s⟩
theorem Kept.keep {N : Addr → Str → Prop} {ps : List Addr} {H0 H : Hp} {b : Addr} (k : Kept N ps H0 H) (n : b ∉ ps) (s : H0 b ≠ none) (m : Soft H0 b) : H b = H0 b := by
  cases e : H0 b with
  | none => exact absurd e s
  | some o => exact k.but b o n e fun qs z => m.1 qs (by rw [e, z])
theorem tabS_one {H H' : Hp} {p P : Addr} {q : Str} (t : TabS H P q) (m : Soft H p) (e : ∀ b, b ≠ p → H' b = H b) : TabS H' P q := by
  obtain ⟨ps, h1, h2, h3⟩ := t
  refine ⟨ps, (e P fun z => m.1 ps (by rw [← z]; exact h1)).trans h1, h2, fun pos cv hc => ?_⟩
  obtain ⟨cd, e1, e2⟩ := h3 pos cv hc
  exact ⟨cd, e1, (e cd fun z => m.2 q (by rw [← z]; exact e2)).trans e2⟩
/-- what stands at p is changed or goes -/
theorem Kept.butOne {N : Addr → Str → Prop} {ps : List Addr} {H0 H H' : Hp} {p : Addr} (k : Kept N ps H0 H) (z : p ∈ ps ∨ H0 p = none) (m : Soft H p) (e : ∀ b, b ≠ p → H' b = H b) : Kept N ps H0 H' := by
  refine ⟨fun b u h1 h2 h3 => ?_, fun b qs h => ?_, fun P q n t => tabS_one (k.tabs P q n t) m e⟩
  · have ne : b ≠ p := fun e => by
      rcases z with z | z
      · exact h1 (by rw [e]; exact z)
      · rw [e, z] at h2
        cases h2
    rw [e b ne]
    exact k.but b u h1 h2 h3
  · obtain ⟨more, e1⟩ := k.tbls b qs h
    exact ⟨more, (e b fun z => m.1 _ (by rw [← z]; exact e1)).trans e1⟩
theorem Kept.wider {N : Addr → Str → Prop} {ps qs : List Addr} {H0 H : Hp} (k : Kept N ps H0 H) (s : ∀ b ∈ ps, b ∈ qs) : Kept N qs H0 H := ⟨fun b o h1 => k.but b o fun z => h1 (s b z), k.tbls, k.tabs⟩
theorem Kept.under {N : Addr → Str → Prop} {ps : List Addr} {H0 H1 H : Hp} (k : Kept N ps H1 H) (s : ∀ b o, H0 b = some o → H1 b = some o) : Kept N ps H0 H := ⟨fun b o h1 h2 => k.but b o h1 (s b o h2), fun b qs h => k.tbls b qs (s _ _ h), fun P q n t => k.tabs P q n (t.ext s)⟩
theorem Kept.fresh {N : Addr → Str → Prop} {ps : List Addr} {H0 H : Hp} {p : Addr} (k : Kept N (p :: ps) H0 H) (n : H0 p = none) : Kept N ps H0 H := ⟨fun b o h1 h2 => k.but b o (fun z => by
    rcases List.mem_cons.mp z with y | y
    · rw [y, n] at h2
      cases h2
    · exact h1 y) h2, k.tbls, k.tabs⟩
/-- a code object is no other thing -/
theorem codeO_off {c : Addr} {q : Str} {φ : Heap → Prop} (h : ∀ hp : Heap, φ hp → ∀ o vs, hp.get? c = some o → o.data = .fields vs → ∀ t, vs[1]? ≠ some (.str q t)) : HO.ext φ ≠ CodeO c q := by
  intro e
  unfold CodeO at e
  injection e with e
  have at_ : (Heap.mk (Array.replicate (c + 1) { cls := .none, data := .fields #[.none, .str q default] }) default).get? c = some { cls := .none, data := .fields #[.none, .str q default] } := by
    unfold Heap.get?
    simp
  refine h _ (by rw [e]; exact ⟨_, _, default, at_, rfl, rfl⟩) _ _ at_ rfl default rfl
theorem exo_off {e C : Addr} {d : Option Addr} {q : Str} : exo e C d ≠ CodeO e q := codeO_off fun hp ⟨t1, g⟩ o vs h hd t z => by
  rw [g] at h
  cases h
  cases hd
  cases z
theorem mut_exo {H : Hp} {p C : Addr} {d : Option Addr} (h : H p = some (exo p C d)) : Soft H p := ⟨(fun _ z => by
    rw [h] at z
    have z := Option.some.inj z
    unfold exo at z
    cases z), (fun _ z => by rw [h] at z; exact exo_off (Option.some.inj z))⟩
theorem kept_but {N : Addr → Str → Prop} {H H' : Hp} {p : Addr} (bt : But p H H') (m : Soft H p) : Kept N [p] H H' :=
  ⟨fun b o h1 h2 _ => bt b o (fun z => h1 (by rw [z]; exact List.mem_singleton_self _)) h2, fun b qs h => ⟨#[], by rw [bt b _ (fun z => m.1 qs (by rw [← z]; exact h)) h]; simp⟩, fun P q _ t => by
    obtain ⟨ps, h1, h2, h3⟩ := t
    refine ⟨ps, bt P _ (fun z => m.1 ps (by rw [← z]; exact h1)) h1, h2, fun pos cv hc => ?_⟩
    obtain ⟨cd, e1, e2⟩ := h3 pos cv hc
    exact ⟨cd, e1, bt cd _ (fun z => m.2 q (by rw [← z]; exact e2)) e2⟩⟩
theorem kept_same {N : Addr → Str → Prop} {ps : List Addr} {H H' : Hp} (s : ∀ b o, H b = some o → H' b = some o) : Kept N ps H H' := Kept.refl.same s
/-- a call -/
theorem Kept.then {N : Addr → Str → Prop} {ps qs : List Addr} {H0 H H' : Hp} (k : Kept N ps H0 H) (c : Kept N qs H H') (sub : ∀ b ∈ qs, b ∈ ps ∨ H0 b = none) : Kept N ps H0 H' := by
  refine ⟨fun b o h1 h2 h3 => c.but b o (fun z => ?_) (k.but b o h1 h2 h3) h3, fun b us h => ?_, fun P q n t => c.tabs P q n (k.tabs P q n t)⟩
  · rcases sub b z with y | y
    · exact h1 y
    · rw [h2] at y
      cases y
  · obtain ⟨m1, e1⟩ := k.tbls b us h
    obtain ⟨m2, e2⟩ := c.tbls b _ e1
    exact ⟨m1 ++ m2, e2.trans (by rw [Array.append_assoc])⟩
structure Ent where
  vs : List V
  ps : List Addr
  H0 : Hp
  G0 : Hp
  F : Hp
/-- p belongs to no slot -/
def Loose (ρ : S) (σ : L2.St) (p : Addr) : Prop := ∀ (i : Nat) (a : AV), ρ[i]? = some (some a) → a.isOwn = true → σ[i]? ≠ some (some (.ref p))
theorem pot_some {H : Hp} {p : Addr} (h : Pot H p) : H p ≠ none := by
  obtain ⟨x, y, _, _, _, e⟩ := h
  rw [e]
  exact nofun
theorem pot_at {H H' : Hp} {p : Addr} (h : Pot H p) (e : H' p = H p) : Pot H' p := by
  obtain ⟨x, y, h1, h2, h3, h4⟩ := h
  exact ⟨x, y, h1, h2, h3, e.trans h4⟩
structure Rel (K : PySem.W.Frag) (E : Ent) (ρ : S) (G : Hp) (σ : L2.St) (H : Hp) : Prop where
  sub : Ex G H
  len : ρ.length = σ.length
  slot : ∀ (i : Nat) (a : AV), ρ[i]? = some (some a) → ∃ v, σ[i]? = some (some v) ∧ Hold K G H a v
  apart : ∀ (i j : Nat) (a b : AV) (v : V), i ≠ j → ρ[i]? = some (some a) → ρ[j]? = some (some b) → a.isOwn = true → b.isOwn = true → σ[i]? = some (some v) → σ[j]? = some (some v) → False
  mine : ∀ (i : Nat) (a : AV) (p : Addr), ρ[i]? = some (some a) → a.isOwn = true → σ[i]? = some (some (.ref p)) → (a.isPar = true ∧ p ∈ E.ps) ∨ (a.isPar = false ∧ E.H0 p = none)
  par : ∀ (i : Nat) (a : AV), ρ[i]? = some (some a) → a.isPar = true → σ[i]? = (E.vs[i]?).map some
  grow : Ex E.G0 G
  new : ∀ b o, G b = some o → E.G0 b = some o ∨ E.H0 b = none
  but : Kept (TN K) E.ps E.H0 H
  live : ∀ p ∈ E.ps, Pot H p
  h0p : ∀ p ∈ E.ps, E.H0 p ≠ none
  frm : ∀ b o, E.F b = some o → H b = some o ∧ G b = none ∧ Loose ρ σ b
  fno : ∀ b qs, E.F b ≠ some (.tbl qs)
  gno : ∀ b qs, G b ≠ some (.tbl qs)
section
variable {K : PySem.W.Frag} {E : Ent} {ρ : S} {G H : Hp} {σ : L2.St} {p : Addr} {o : HO} {a : AV} {v : V} {i : Nat}
theorem Rel.h0 (r : Rel K E ρ G σ H) (n : H p = none) : E.H0 p = none := by
  cases e : E.H0 p with
  | none => rfl
  | some o =>
    by_cases hp : p ∈ E.ps
    · exact absurd n (pot_some (r.live p hp))
    · obtain ⟨u, eu⟩ := r.but.any hp e
      rw [eu] at n
      cases n
theorem Rel.g0 (r : Rel K E ρ G σ H) (n : H p = none) : G p = none := by
  cases e : G p with
  | none => rfl
  | some o =>
    rw [r.sub p o e] at n
    cases n
theorem Rel.loose (r : Rel K E ρ G σ H) (n : H p = none) : Loose ρ σ p := fun i a h1 h2 h3 => by
  obtain ⟨v, e, hh⟩ := r.slot i a h1
  obtain ⟨q, rfl, _, st⟩ := hh.own h2
  rw [h3] at e
  cases Option.some.inj (Option.some.inj e)
  exact st.some n
/-- all but p stays; p belongs to no slot -/
theorem Rel.f0 (r : Rel K E ρ G σ H) (n : H p = none) : E.F p = none := by
  cases e : E.F p with
  | none => rfl
  | some o => rw [(r.frm p o e).1] at n; cases n
theorem Rel.other (r : Rel K E ρ G σ H) (l : Loose ρ σ p) (g : G p = none) (z : E.H0 p = none) (np : p ∉ E.ps) (fp : E.F p = none) (m : Soft H p) : Rel K E ρ G σ (upd H p o) := by
  refine ⟨fun b u e => ?_, r.len, fun i a h1 => ?_, r.apart, r.mine, r.par, r.grow, r.new, r.but.upd (.inr z) m, fun q hq => ?_, r.h0p, fun b u h => ?_, r.fno, r.gno⟩
  · rw [upd_ne (ne_of_none e g)]
    exact r.sub b u e
  · obtain ⟨v, e, hh⟩ := r.slot i a h1
    refine ⟨v, e, ?_⟩
    cases ho : a.isOwn with
    | false => exact hh.still (Ex.refl G) ho
    | true =>
      obtain ⟨q, rfl, gq, st⟩ := hh.own ho
      exact Hold.of_own ho gq (st.mono (Ex.refl G) (upd_ne fun e' => l i a h1 ho (by rw [e, e'])))
  · exact pot_at (r.live q hq) (upd_ne fun (e : q = p) => np (e ▸ hq))
  · obtain ⟨h1, h2, h3⟩ := r.frm b u h
    exact ⟨(upd_ne (ne_of_none h fp)).trans h1, h2, h3⟩
theorem Rel.notps (r : Rel K E ρ G σ H) (n : H p = none) : p ∉ E.ps := fun h => pot_some (r.live p h) n
theorem Rel.alloc (r : Rel K E ρ G σ H) (n : H p = none) : Rel K E ρ G σ (upd H p o) := r.other (r.loose n) (r.g0 n) (r.h0 n) (r.notps n) (r.f0 n) (mut_none n)
/-- what stands at p is to stay from now on -/
theorem gno_upd {G : Hp} {p : Addr} {o : HO} (g : ∀ b qs, G b ≠ some (.tbl qs)) (n : ∀ qs, o ≠ .tbl qs) : ∀ b qs, upd G p o b ≠ some (.tbl qs) := fun b qs h => by
  by_cases hb : b = p
  · rw [hb, upd_same] at h
    exact n _ (Option.some.inj h)
  · rw [upd_ne hb] at h
    exact g b qs h
theorem Rel.freeze (r : Rel K E ρ G σ H) (e : H p = some o) (l : Loose ρ σ p) (g : G p = none) (z : E.H0 p = none ∧ E.F p = none) (nt : ∀ qs, o ≠ .tbl qs := by nofun) : Rel K E ρ (upd G p o) σ H ∧ Ex G (upd G p o) := by
  have gx : Ex G (upd G p o) := fun b u h => by rw [upd_ne (ne_of_none h g)]; exact h
  refine ⟨⟨fun b u h => ?_, r.len, fun i a h1 => ?_, r.apart, r.mine, r.par, r.grow.trans gx, fun b u h => ?_, r.but, r.live, r.h0p, fun b u h => ?_, r.fno, gno_upd r.gno nt⟩, gx⟩
  · by_cases hb : b = p
    · rw [hb, upd_same] at h
      cases h
      rw [hb]
      exact e
    · rw [upd_ne hb] at h
      exact r.sub b u h
  · obtain ⟨v, ev, hh⟩ := r.slot i a h1
    refine ⟨v, ev, ?_⟩
    cases ho : a.isOwn with
    | false => exact hh.still gx ho
    | true =>
      obtain ⟨q, rfl, gq, st⟩ := hh.own ho
      refine Hold.of_own ho ?_ (st.mono gx rfl)
      rw [upd_ne fun e' => l i a h1 ho (by rw [ev, e'])]
      exact gq
  · by_cases hb : b = p
    · rw [hb]
      exact .inr z.1
    · rw [upd_ne hb] at h
      exact r.new b u h
  · obtain ⟨h1, h2, h3⟩ := r.frm b u h
    exact ⟨h1, (upd_ne (ne_of_none h z.2)).trans h2, h3⟩
/-- a new thing that stays -/
theorem Rel.made (r : Rel K E ρ G σ H) (n : H p = none) (nt : ∀ qs, o ≠ .tbl qs := by nofun) : Rel K E ρ (upd G p o) σ (upd H p o) ∧ Ex G (upd G p o) :=
  (r.alloc n).freeze upd_same (r.loose n) (r.g0 n) ⟨r.h0 n, r.f0 n⟩ nt
/-- what slot i owns is changed -/
theorem Rel.mut (r : Rel K E ρ G σ H) (h : ρ[i]? = some (some a)) (ho : a.isOwn = true) (e : σ[i]? = some (some (.ref p))) {a' : AV} (ho' : a'.isOwn = true) (hp : a'.isPar = a.isPar) (hp2 : a'.isPar = true → a' = .pot true) (st : Stands K G (upd H p o) p a') :
    Rel K E (ρ.set i (some a')) G σ (upd H p o) := by
  have gp : G p = none := by
    obtain ⟨v, ev, hh⟩ := r.slot i a h
    obtain ⟨q, rfl, gq, _⟩ := hh.own ho
    rw [e] at ev
    cases ev
    exact gq
  have mp : Soft H p := by
    obtain ⟨v, ev, hh⟩ := r.slot i a h
    obtain ⟨q, rfl, _, st⟩ := hh.own ho
    rw [e] at ev
    cases ev
    exact st.mut
  have at_ : ∀ (j : Nat) (b : AV), (ρ.set i (some a'))[j]? = some (some b) → (j = i ∧ b = a') ∨ (j ≠ i ∧ ρ[j]? = some (some b)) := fun j b hj => by
    rw [List.getElem?_set] at hj
    split at hj
    · rename_i eij
      split at hj
      · cases hj
        exact .inl ⟨eij.symm, rfl⟩
      · cases hj
    · rename_i nij
      exact .inr ⟨fun z => nij z.symm, hj⟩
  refine ⟨fun b u z => ?_, by rw [List.length_set]; exact r.len, fun j b hj => ?_, fun j l b c v njl hj hl ob oc ej el => ?_, fun j b q hj ob ej => ?_, fun j b hj ob => ?_, r.grow, r.new, r.but.upd ?_ mp, fun q hq => ?_, r.h0p, fun b u hb => ?_, r.fno, r.gno⟩
  · rw [upd_ne (ne_of_none z gp)]
    exact r.sub b u z
  · rcases at_ j b hj with ⟨rfl, rfl⟩ | ⟨nj, hj⟩
    · exact ⟨_, e, Hold.of_own ho' gp st⟩
    · obtain ⟨v, ev, hh⟩ := r.slot j b hj
      refine ⟨v, ev, ?_⟩
      cases hob : b.isOwn with
      | false => exact hh.still (Ex.refl G) hob
      | true =>
        obtain ⟨q, rfl, gq, sq⟩ := hh.own hob
        refine Hold.of_own hob gq (sq.mono (Ex.refl G) (upd_ne fun z => ?_))
        subst z
        exact r.apart j i b a _ nj hj h hob ho ev e
  · rcases at_ j b hj with ⟨rfl, rfl⟩ | ⟨nj, hj⟩
    · rcases at_ l c hl with ⟨rfl, rfl⟩ | ⟨nl, hl⟩
      · exact njl rfl
      · exact r.apart _ l a c v njl h hl ho oc ej el
    · rcases at_ l c hl with ⟨el1, ec1⟩ | ⟨nl, hl⟩
      · rw [el1] at el njl
        exact r.apart j i b a v njl hj h ob ho ej el
      · exact r.apart j l b c v njl hj hl ob oc ej el
  · rcases at_ j b hj with ⟨rfl, rfl⟩ | ⟨nj, hj⟩
    · rw [hp]
      exact r.mine _ a q h ho ej
    · exact r.mine j b q hj ob ej
  · rcases at_ j b hj with ⟨rfl, rfl⟩ | ⟨nj, hj⟩
    · exact r.par _ a h (hp ▸ ob)
    · exact r.par j b hj ob
  · rcases r.mine i a p h ho e with y | y
    · exact .inl y.2
    · exact .inr y.2
  · by_cases z : q = p
    · subst z
      rcases r.mine i a q h ho e with y | y
      · have := hp2 (hp.trans y.1)
        subst this
        exact st
      · have hl := r.live q hq
        exfalso
        have := r.h0p q hq
        exact this y.2
    · exact pot_at (r.live q hq) (upd_ne z)
  · obtain ⟨h1, h2, h3⟩ := r.frm b u hb
    refine ⟨(upd_ne fun z => h3 i a h ho (by rw [e, z])).trans h1, h2, fun j c hj oc ej => ?_⟩
    rcases at_ j c hj with ⟨y1, y2⟩ | ⟨nj, hj⟩
    · rw [y1] at ej
      exact h3 i a h ho ej
    · exact h3 j c hj oc ej
theorem getset {α : Type} {l : List (Option α)} {i j : Nat} {a b : α} (h : (l.set i (some a))[j]? = some (some b)) : (j = i ∧ b = a) ∨ (j ≠ i ∧ l[j]? = some (some b)) := by
  rw [List.getElem?_set] at h
  split at h
  · rename_i e
    split at h
    · cases h
      exact .inl ⟨e.symm, rfl⟩
    · cases h
  · rename_i n
    exact .inr ⟨fun z => n z.symm, h⟩
theorem getnone {α : Type} {l : List (Option α)} {i j : Nat} {b : α} (h : (l.set i none)[j]? = some (some b)) : j ≠ i ∧ l[j]? = some (some b) := by
  rw [List.getElem?_set] at h
  split at h
  · split at h <;> cases h
  · rename_i n
    exact ⟨fun z => n z.symm, h⟩
/-- a slot is forgotten, whatever it then holds -/
theorem Rel.forget (r : Rel K E ρ G σ H) {u : Option V} : Rel K E (ρ.set i none) G (σ.set i u) H := by
  have ne : ∀ {j : Nat} {b : AV}, (ρ.set i none)[j]? = some (some b) → j ≠ i ∧ ρ[j]? = some (some b) ∧ (σ.set i u)[j]? = σ[j]? := fun {j b} hj => by
    obtain ⟨n, h⟩ := getnone hj
    exact ⟨n, h, by rw [List.getElem?_set_ne fun z => n z.symm]⟩
  refine ⟨r.sub, by rw [List.length_set, List.length_set]; exact r.len, fun j b hj => ?_, fun j l b c v njl hj hl ob oc ej el => ?_, fun j b q hj ob ej => ?_, fun j b hj ob => ?_, r.grow, r.new, r.but, r.live, r.h0p, fun b u hb => ?_, r.fno, r.gno⟩
  · obtain ⟨n, h, e⟩ := ne hj
    rw [e]
    exact r.slot j b h
  · obtain ⟨n, h, e⟩ := ne hj
    obtain ⟨n', h', e'⟩ := ne hl
    rw [e] at ej
    rw [e'] at el
    exact r.apart j l b c v njl h h' ob oc ej el
  · obtain ⟨n, h, e⟩ := ne hj
    rw [e] at ej
    exact r.mine j b q h ob ej
  · obtain ⟨n, h, e⟩ := ne hj
    rw [e]
    exact r.par j b h ob
  · obtain ⟨h1, h2, h3⟩ := r.frm b u hb
    refine ⟨h1, h2, fun j c hj oc ej => ?_⟩
    obtain ⟨n, h, e⟩ := ne hj
    rw [e] at ej
    exact h3 j c h oc ej
/-- a slot is given a value -/
theorem Rel.put (r : Rel K E ρ G σ H) (hh : Hold K G H a v) (np : a.isPar = false) (no : a.isOwn = true → ∀ p, v = .ref p → (E.H0 p = none ∧ E.F p = none) ∧ Loose ρ σ p) : Rel K E (ρ.set i (some a)) G (σ.set i (some v)) H := by
  have ne : ∀ {j : Nat} {b : AV}, (ρ.set i (some a))[j]? = some (some b) → (j = i ∧ b = a ∧ (σ.set i (some v))[j]? = some (some v)) ∨ (j ≠ i ∧ ρ[j]? = some (some b) ∧ (σ.set i (some v))[j]? = σ[j]?) := fun {j b} hj => by
    have hj0 := hj
    rcases getset hj with ⟨e1, e2⟩ | ⟨n, h⟩
    · refine .inl ⟨e1, e2, ?_⟩
      have : i < σ.length := by
        rw [← r.len]
        have := (List.getElem?_eq_some_iff.mp hj0).1
        rw [List.length_set] at this
        omega
      rw [e1, List.getElem?_set, if_pos rfl, if_pos this]
    · exact .inr ⟨n, h, by rw [List.getElem?_set_ne fun z => n z.symm]⟩
  refine ⟨r.sub, by rw [List.length_set, List.length_set]; exact r.len, fun j b hj => ?_, fun j l b c u njl hj hl ob oc ej el => ?_, fun j b q hj ob ej => ?_, fun j b hj ob => ?_, r.grow, r.new, r.but, r.live, r.h0p, fun b u hb => ?_, r.fno, r.gno⟩
  · rcases ne hj with ⟨_, e2, e⟩ | ⟨n, h, e⟩
    · rw [e, e2]
      exact ⟨v, rfl, hh⟩
    · rw [e]
      exact r.slot j b h
  · rcases ne hj with ⟨e1, e2, e⟩ | ⟨n, h, e⟩
    · rcases ne hl with ⟨f1, f2, f⟩ | ⟨m, g, f⟩
      · exact njl (e1.trans f1.symm)
      · rw [e] at ej
        cases ej
        rw [f] at el
        rw [e2] at ob
        obtain ⟨p, hv, _⟩ := hh.own ob
        exact (no ob p hv).2 l c g oc (by rw [el, hv])
    · rcases ne hl with ⟨f1, f2, f⟩ | ⟨m, g, f⟩
      · rw [f] at el
        cases el
        rw [e] at ej
        rw [f2] at oc
        obtain ⟨p, hv, _⟩ := hh.own oc
        exact (no oc p hv).2 j b h ob (by rw [ej, hv])
      · rw [e] at ej
        rw [f] at el
        exact r.apart j l b c u njl h g ob oc ej el
  · rcases ne hj with ⟨e1, e2, e⟩ | ⟨n, h, e⟩
    · rw [e] at ej
      cases ej
      rw [e2] at ob
      rw [e2]
      exact .inr ⟨np, (no ob q rfl).1.1⟩
    · rw [e] at ej
      exact r.mine j b q h ob ej
  · rcases ne hj with ⟨e1, e2, e⟩ | ⟨n, h, e⟩
    · rw [e2, np] at ob
      cases ob
    · rw [e]
      exact r.par j b h ob
  · obtain ⟨h1, h2, h3⟩ := r.frm b u hb
    refine ⟨h1, h2, fun j c hj oc ej => ?_⟩
    rcases ne hj with ⟨e1, e2, e⟩ | ⟨n, h, e⟩
    · rw [e] at ej
      cases ej
      rw [e2] at oc
      rw [(no oc b rfl).1.2] at hb
      cases hb
    · rw [e] at ej
      exact h3 j c h oc ej
/-- what slot i owns is to stay from now on -/
theorem Rel.frz {d : D} (r : Rel K E ρ G σ H) (h : ρ[i]? = some (some (.own false d))) : ∃ p o, σ[i]? = some (some (.ref p)) ∧ Rp K (upd G p o) (.ref p) d ∧ Ex G (upd G p o) ∧ Rel K E (ρ.set i (some (.dat d))) (upd G p o) σ H := by
  obtain ⟨v, ev, hh⟩ := r.slot i _ h
  obtain ⟨p, rfl, gp, st⟩ := hh.own rfl
  have h0 : E.H0 p = none := by
    rcases r.mine i _ p h rfl ev with y | y
    · cases y.1
    · exact y.2
  have key : ∀ o, H p = some o → Ex G (upd G p o) ∧ (Rp K (upd G p o) (.ref p) d → Rel K E (ρ.set i (some (.dat d))) (upd G p o) σ H) := fun o eo => by
    have nt : ∀ qs, o ≠ .tbl qs := fun qs z => st.mut.1 qs (by rw [eo, z])
    have gx : Ex G (upd G p o) := fun b u z => by rw [upd_ne (ne_of_none z gp)]; exact z
    refine ⟨gx, fun rp => ⟨fun b u z => ?_, by rw [List.length_set]; exact r.len, fun j b hj => ?_, fun j l b c v njl hj hl ob oc ej el => ?_, fun j b q hj ob ej => ?_, fun j b hj ob => ?_, r.grow.trans gx, fun b u z => ?_, r.but, r.live, r.h0p, fun b u hb => ?_, r.fno, gno_upd r.gno nt⟩⟩
    · by_cases hb : b = p
      · rw [hb, upd_same] at z
        cases z
        rw [hb]
        exact eo
      · rw [upd_ne hb] at z
        exact r.sub b u z
    · rcases getset hj with ⟨rfl, rfl⟩ | ⟨nj, hj⟩
      · exact ⟨_, ev, rp⟩
      · obtain ⟨w, ew, hw⟩ := r.slot j b hj
        refine ⟨w, ew, ?_⟩
        cases hob : b.isOwn with
        | false => exact hw.still gx hob
        | true =>
          obtain ⟨q, rfl, gq, sq⟩ := hw.own hob
          refine Hold.of_own hob ?_ (sq.mono gx rfl)
          rw [upd_ne fun z => ?_]
          · exact gq
          · rw [z] at ew
            exact r.apart j i b _ _ nj hj h hob rfl ew ev
    · rcases getset hj with ⟨_, e2⟩ | ⟨nj, hj⟩
      · rw [e2] at ob
        cases ob
      · rcases getset hl with ⟨_, e2⟩ | ⟨nl, hl⟩
        · rw [e2] at oc
          cases oc
        · exact r.apart j l b c v njl hj hl ob oc ej el
    · rcases getset hj with ⟨_, e2⟩ | ⟨nj, hj⟩
      · rw [e2] at ob
        cases ob
      · exact r.mine j b q hj ob ej
    · rcases getset hj with ⟨_, e2⟩ | ⟨nj, hj⟩
      · rw [e2] at ob
        cases ob
      · exact r.par j b hj ob
    · by_cases hb : b = p
      · rw [hb]
        exact .inr h0
      · rw [upd_ne hb] at z
        exact r.new b u z
    · obtain ⟨h1, h2, h3⟩ := r.frm b u hb
      refine ⟨h1, (upd_ne fun y => h3 i _ h rfl (by rw [ev, y])).trans h2, fun j c hj oc ej => ?_⟩
      rcases getset hj with ⟨_, e2⟩ | ⟨nj, hj⟩
      · rw [e2] at oc
        cases oc
      · exact h3 j c hj oc ej
  have st : Own K G H p d := st
  cases d with
  | list ds =>
    obtain ⟨xs, e1, e2⟩ := st
    have rp : Rp K (upd G p (.lst xs)) (.ref p) (.list ds) := .lst upd_same (e2.mono (key _ e1).1)
    exact ⟨p, _, ev, rp, (key _ e1).1, (key _ e1).2 rp⟩
  | dict es =>
    obtain ⟨xs, e1, e2⟩ := st
    have rp : Rp K (upd G p (.dK xs)) (.ref p) (.dict es) := .dct upd_same (e2.mono (key _ e1).1)
    exact ⟨p, _, ev, rp, (key _ e1).1, (key _ e1).2 rp⟩
  | _ => exact st.elim
/-- p is kept aside -/
def Ent.aside (E : Ent) (p : Addr) (o : HO) : Ent := { E with F := upd E.F p o }
theorem Rel.aside (r : Rel K E ρ G σ H) (e : H p = some o) (g : G p = none) (l : Loose ρ σ p) (nt : ∀ qs, o ≠ .tbl qs := by nofun) : Rel K (E.aside p o) ρ G σ H :=
  ⟨r.sub, r.len, r.slot, r.apart, r.mine, r.par, r.grow, r.new, r.but, r.live, r.h0p, fun b u h => by
    have h : upd E.F p o b = some u := h
    by_cases hb : b = p
    · rw [hb, upd_same] at h
      cases h
      rw [hb]
      exact ⟨e, g, l⟩
    · rw [upd_ne hb] at h
      exact r.frm b u h, fun b qs h => by
    have h : upd E.F p o b = some (.tbl qs) := h
    by_cases hb : b = p
    · rw [hb, upd_same] at h
      exact nt _ (Option.some.inj h)
    · rw [upd_ne hb] at h
      exact r.fno b qs h, r.gno⟩
theorem Rel.back (r : Rel K (E.aside p o) ρ G σ H) (f : E.F p = none) : Rel K E ρ G σ H ∧ H p = some o ∧ G p = none ∧ Loose ρ σ p :=
  ⟨⟨r.sub, r.len, r.slot, r.apart, r.mine, r.par, r.grow, r.new, r.but, r.live, r.h0p, fun b u h => r.frm b u ((upd_ne (ne_of_none h f)).trans h), fun b qs h => r.fno b qs ((upd_ne (ne_of_none h f)).trans h), r.gno⟩, r.frm p o upd_same⟩
end
end Tr
set_option Elab.async false
set_option linter.all false
set_option maxRecDepth 100000
namespace Tr
open PySem PySem.Spec PyProof.Rows L2 Evl Kc
structure Exn where
  cls : Addr
  fs : List (Str × D)
abbrev KE := AV → S → Prop
abbrev KX := Exn → S → Prop
abbrev FE := S → KE → KX → Prop
abbrev FT := S → (Bool → S → Prop) → KX → Prop
abbrev FA := S → (List AV → S → Prop) → KX → Prop
/-- the value of an expression -/
def Res (K : PySem.W.Frag) (E : Ent) (ρ : S) (G : Hp) (σ : L2.St) (H : Hp) (a : AV) (v : V) : Prop :=
  (∃ i, a = .at i ∧ σ[i]? = some (some v)) ∨ (a.isOwn = false ∧ Hold K G H a v) ∨ (a.isOwn = true ∧ a.isPar = false ∧ ∃ p, v = .ref p ∧ G p = none ∧ Stands K G H p a ∧ (E.H0 p = none ∧ E.F p = none) ∧ Loose ρ σ p)
def XRes (K : PySem.W.Frag) (G : Hp) (c : Exn) (dd : Addr) : Prop := ∃ vs, G dd = some (.xd vs) ∧ Flds K G vs c.fs
def LkX (K : PySem.W.Frag) (E : Ent) (x : KX) (W : WX) : Prop := ∀ c ρ' G' σ' dd H', Rel K E ρ' G' σ' H' → XRes K G' c dd → x c ρ' → W (.ref c.cls) (some dd) σ' H'
def LkE (K : PySem.W.Frag) (E : Ent) (G : Hp) (σ : L2.St) (k : KE) (Q : VK) : Prop := ∀ a ρ' G' v H', Ex G G' → Rel K E ρ' G' σ H' → Res K E ρ' G' σ H' a v → k a ρ' → Q v H'
def LkA (K : PySem.W.Frag) (E : Ent) (G : Hp) (σ : L2.St) (k : List AV → S → Prop) (Q : List V → Hp → Prop) : Prop := ∀ as ρ' G' vs H', Ex G G' → Rel K E ρ' G' σ H' → Paired (fun a v => a.isOwn = false ∧ Res K E ρ' G' σ H' a v) as vs → k as ρ' → Q vs H'
def LkT (K : PySem.W.Frag) (E : Ent) (G : Hp) (σ : L2.St) (k : Bool → S → Prop) (Q : Bool → Hp → Prop) : Prop := ∀ b ρ' G' H', Ex G G' → Rel K E ρ' G' σ H' → k b ρ' → Q b H'
/-- errors are let go; what the def knows of tables is known at the entry -/
def TakesT (X : Cx) (W : WX) (E : Ent) : Prop := Takes X W ∧ (X.stack = X.env :: X.outer → (∀ z, X.fn z = true) → ∀ P q, LamX.TabS X.H_0 P q → LamX.TabS E.H0 P q)
theorem no_self {α : Type} {a : α} {l : List α} (h : l = a :: l) : False := by
  have z := congrArg List.length h
  rw [List.length_cons] at z
  omega
def RefE (X : Cx) (t : TE) (f : FE) : Prop := ∀ (W : WX) (E : Ent) (ρ : S) (G : Hp) (σ : L2.St) (H : Hp) (Q : VK) (k : KE) (x : KX), TakesT X W E → Rel X.K E ρ G σ H → LkX X.K E x W → LkE X.K E G σ k Q → f ρ k x → t σ H Q
def RefT (X : Cx) (t : TT) (f : FT) : Prop := ∀ (W : WX) (E : Ent) (ρ : S) (G : Hp) (σ : L2.St) (H : Hp) (Q : Bool → Hp → Prop) (k : Bool → S → Prop) (x : KX), TakesT X W E → Rel X.K E ρ G σ H → LkX X.K E x W → LkT X.K E G σ k Q → f ρ k x → t σ H Q
def RefA (X : Cx) (t : TA) (f : FA) : Prop := ∀ (W : WX) (E : Ent) (ρ : S) (G : Hp) (σ : L2.St) (H : Hp) (Q : List V → Hp → Prop) (k : List AV → S → Prop) (x : KX), TakesT X W E → Rel X.K E ρ G σ H → LkX X.K E x W → LkA X.K E G σ k Q → f ρ k x → t σ H Q
def wE (X : Cx) (e : Expr) : TE := fun σ H Q => ∀ (pins : List (Addr × Obj)) (s : Shared), Inv X pins σ H s → wpAny (model X.prog X.w) X.A (eval e X.env) (EP X pins σ Q) X.xe s
def wT (X : Cx) (e : Expr) : TT := fun σ H Q => ∀ (pins : List (Addr × Obj)) (s : Shared), Inv X pins σ H s → wpAny (model X.prog X.w) X.A (isTrue e X.env (eval e X.env)) (TP X pins σ Q) X.xe s
def wA (X : Cx) (es : List Expr) : TA := fun σ H Q => ∀ (pos : Pos) (pins : List (Addr × Obj)) (s : Shared), Inv X pins σ H s → wpAny (model X.prog X.w) X.A (spliced (backTo pos (starEach es X.env))) (AP X pins σ Q) X.xe s
theorem pe_w {X : Cx} {e : Expr} : PE X e (wE X e) := ⟨fun pins s _ _ _ I h => h pins s I⟩
theorem pt_w {X : Cx} {e : Expr} : PT X e (wT X e) := ⟨fun pins s _ _ _ I h => h pins s I⟩
theorem pa_w {X : Cx} {e : List Expr} : PA X e (wA X e) := ⟨fun pos pins s _ _ _ I h => h pos pins s I⟩
def TrE (X : Cx) (e : Expr) (f : FE) : Prop := RefE X (wE X e) f
def TrT (X : Cx) (e : Expr) (f : FT) : Prop := RefT X (wT X e) f
def TrA (X : Cx) (es : List Expr) (f : FA) : Prop := RefA X (wA X es) f
theorem TrE.of {X : Cx} {e : Expr} {t : TE} {f : FE} (h : PE X e t) (r : RefE X t f) : TrE X e f := fun W E ρ G σ H Q k x tk R lx lk hf pins s I => h.run pins s σ H Q I (r W E ρ G σ H Q k x tk R lx lk hf)
theorem TrT.of {X : Cx} {e : Expr} {t : TT} {f : FT} (h : PT X e t) (r : RefT X t f) : TrT X e f := fun W E ρ G σ H Q k x tk R lx lk hf pins s I => h.run pins s σ H Q I (r W E ρ G σ H Q k x tk R lx lk hf)
theorem TrA.of {X : Cx} {e : List Expr} {t : TA} {f : FA} (h : PA X e t) (r : RefA X t f) : TrA X e f := fun W E ρ G σ H Q k x tk R lx lk hf pos pins s I => h.run pos pins s σ H Q I (r W E ρ G σ H Q k x tk R lx lk hf)
def vw (ρ : S) (a : AV) (k : D → Prop) : Prop :=
  match a with
  | .dat d => k d
  | .own _ d => k d
  | .at i => match ρ[i]? with
    | some (some (.own _ d)) => k d
    | _ => False
  | _ => False
/-- v is seen as d; its parts stand in G -/
inductive Vw (K : PySem.W.Frag) (G H : Hp) : V → D → Prop
  | rp {v : V} {d : D} : Rp K G v d → Vw K G H v d
  | own {p : Addr} {d : D} : Own K G H p d → Vw K G H (.ref p) d
section
variable {K : PySem.W.Frag} {E : Ent} {ρ ρ' : S} {G G' H H' : Hp} {σ : L2.St} {p : Addr} {o : HO} {a : AV} {v : V} {i : Nat} {d : D}
theorem vw_at {i : Nat} {k : D → Prop} (h : vw ρ (.at i) k) : ∃ b d, ρ[i]? = some (some (.own b d)) ∧ k d := by
  unfold vw at h
  dsimp only at h
  split at h
  · rename_i b d e
    exact ⟨b, d, e, h⟩
  · exact h.elim
theorem Res.vw {k : D → Prop} (r : Rel K E ρ G σ H) (q : Res K E ρ G σ H a v) (h : vw ρ a k) : ∃ d, Vw K G H v d ∧ k d := by
  rcases q with ⟨i, rfl, e⟩ | ⟨no, hh⟩ | ⟨yo, np, p, rfl, gp, st, h0, ls⟩
  · obtain ⟨b, d, e1, hk⟩ := vw_at h
    obtain ⟨u, e2, hh⟩ := r.slot i _ e1
    rw [e] at e2
    cases e2
    obtain ⟨p, rfl, _, st⟩ := hh
    exact ⟨d, .own st, hk⟩
  · cases a with
    | dat d => exact ⟨d, .rp hh, h⟩
    | «at» i => exact hh.elim
    | own b d => cases no
    | pot b => cases no
    | obj C fs => exact h.elim
    | raw u => exact h.elim
    | scr ns => exact h.elim
    | exn a C dd fs => exact h.elim
    | clo f Gc => exact h.elim
  · cases a with
    | own b d => exact ⟨d, .own st, h⟩
    | pot b => exact h.elim
    | _ => cases yo
theorem Vw.mono (e : Ex G G') (h : Vw K G H v d) (st : ∀ p, v = .ref p → H p ≠ none → H' p = H p) : Vw K G' H' v d := by
  cases h with
  | rp h => exact .rp (h.mono e)
  | own h => exact .own (h.mono e (st _ rfl h.some))
theorem Vw.ints {i : Int} (h : Vw K G H v (.int i)) : v = .int i := by
  cases h with
  | rp h => cases h; rfl
  | own h => exact h.elim
theorem Vw.strs {i : Str} (h : Vw K G H v (.str i)) : v = .str i := by
  cases h with
  | rp h => cases h; rfl
  | own h => exact h.elim
theorem Vw.bls {i : Bool} (h : Vw K G H v (.bool i)) : v = .bl i := by
  cases h with
  | rp h => cases h; rfl
  | own h => exact h.elim
theorem Vw.nons (h : Vw K G H v .none) : v = .non := by
  cases h with
  | rp h => cases h; rfl
  | own h => exact h.elim
theorem Vw.lsts {ds : List D} (s : Ex G H) (h : Vw K G H v (.list ds)) : ∃ p xs, v = .ref p ∧ H p = some (.lst xs) ∧ Rps K G xs ds := by
  cases h with
  | rp h => cases h with | lst h1 h2 => exact ⟨_, _, rfl, s _ _ h1, h2⟩
  | own h => obtain ⟨xs, h1, h2⟩ := h; exact ⟨_, _, rfl, h1, h2⟩
theorem Vw.tups {ds : List D} (s : Ex G H) (h : Vw K G H v (.tuple ds)) : ∃ p xs, v = .ref p ∧ SqT K H p xs ∧ Rps K G xs ds := by
  cases h with
  | rp h => cases h with | tup h1 h2 => exact ⟨_, _, rfl, ex_t s h1, h2⟩
  | own h => exact h.elim
theorem Vw.dcts {ds : List (D × D)} (s : Ex G H) (h : Vw K G H v (.dict ds)) : ∃ p xs, v = .ref p ∧ H p = some (.dK xs) ∧ Rpk K G xs ds := by
  cases h with
  | rp h => cases h with | dct h1 h2 => exact ⟨_, _, rfl, s _ _ h1, h2⟩
  | own h => obtain ⟨xs, h1, h2⟩ := h; exact ⟨_, _, rfl, h1, h2⟩
/-- in the whole heap -/
theorem Vw.all (s : Ex G H) (h : Vw K G H v d) : Rp K H v d := by
  cases h with
  | rp h => exact h.mono s
  | own h =>
    cases d <;> first
      | exact h.elim
      | (obtain ⟨xs, h1, h2⟩ := h; exact .lst h1 (h2.mono s))
      | (obtain ⟨xs, h1, h2⟩ := h; exact .dct h1 (h2.mono s))
end
inductive Out where
  | val (d : D) | newl (ds : List D) | newt (ds : List D) | newd (es : List (D × D))
def Out.av : Out → AV
  | .val d => .dat d
  | .newl ds => .own false (.list ds)
  | .newt ds => .dat (.tuple ds)
  | .newd es => .own false (.dict es)
structure OutLk (K : PySem.W.Frag) (G H : Hp) (k : Out → Prop) (Q : VK) : Prop where
  val : ∀ v d, Rp K G v d → k (.val d) → Q v H
  newl : ∀ p xs ds, H p = none → Rps K G xs ds → k (.newl ds) → Q (.ref p) (upd H p (.lst xs))
  newt : ∀ p xs ds, H p = none → Rps K G xs ds → k (.newt ds) → Q (.ref p) (upd H p (.tup xs))
  newd : ∀ p xs ds, H p = none → Rpk K G xs ds → k (.newd ds) → Q (.ref p) (upd H p (.dK xs))
  same : ∀ v ds, Rp K G v (.tuple ds) → k (.newt ds) → Q v H
def Yields (K : PySem.W.Frag) (G H : Hp) (q : Hp → VK → Prop) (g : (Out → Prop) → Prop) : Prop := ∀ (Q : VK) (k : Out → Prop), OutLk K G H k Q → g k → q H Q
section
variable {K : PySem.W.Frag} {E : Ent} {ρ ρ' : S} {G G' H H' : Hp} {σ : L2.St} {p : Addr} {o : HO} {a : AV} {v : V} {i : Nat} {d : D}
theorem Res.dat (h : Rp K G v d) : Res K E ρ G σ H (.dat d) v := .inr (.inl ⟨rfl, h⟩)
theorem outLk {k : KE} {Q : VK} (r : Rel K E ρ G σ H) (lk : LkE K E G σ k Q) : OutLk K G H (fun o => k o.av ρ) Q := by
  refine ⟨fun v d h hk => lk _ ρ G v H (Ex.refl G) r (.dat h) hk, fun p xs ds n h hk => ?_, fun p xs ds n h hk => ?_, fun p xs ds n h hk => ?_, fun v ds h hk => lk _ ρ G v H (Ex.refl G) r (.dat h) hk⟩
  · exact lk (.own false (.list ds)) ρ G _ _ (Ex.refl G) (r.alloc n) (.inr (.inr ⟨rfl, rfl, p, rfl, r.g0 n, ⟨xs, upd_same, h⟩, ⟨r.h0 n, r.f0 n⟩, r.loose n⟩)) hk
  · obtain ⟨r2, e⟩ := r.made (o := .tup xs) n
    exact lk _ ρ _ _ _ e r2 (.dat (.tup (.inl (.inl upd_same)) (h.mono e))) hk
  · exact lk (.own false (.dict ds)) ρ G _ _ (Ex.refl G) (r.alloc n) (.inr (.inr ⟨rfl, rfl, p, rfl, r.g0 n, ⟨xs, upd_same, h⟩, ⟨r.h0 n, r.f0 n⟩, r.loose n⟩)) hk
/-- what is new and not yet kept by a slot is to stay -/
def fz (a : AV) (k : AV → Prop) : Prop :=
  match a with
  | .own _ d => k (.dat d)
  | .pot _ => False
  | a => k a
theorem Res.fz {k : AV → Prop} (r : Rel K E ρ G σ H) (q : Res K E ρ G σ H a v) (h : fz a k) : ∃ a' G', a'.isOwn = false ∧ Ex G G' ∧ Rel K E ρ G' σ H ∧ Res K E ρ G' σ H a' v ∧ k a' := by
  rcases q with ⟨i, rfl, e⟩ | ⟨no, hh⟩ | ⟨yo, np, p, rfl, gp, st, h0, ls⟩
  · exact ⟨_, G, rfl, Ex.refl G, r, .inl ⟨i, rfl, e⟩, h⟩
  · refine ⟨a, G, no, Ex.refl G, r, .inr (.inl ⟨no, hh⟩), ?_⟩
    cases a <;> first | exact h | cases no
  · cases a with
    | own b d =>
      have st : Own K G H p d := st
      cases d with
      | list ds =>
        obtain ⟨xs, e1, e2⟩ := st
        obtain ⟨r2, e⟩ := r.freeze e1 ls gp h0
        exact ⟨_, _, rfl, e, r2, .dat (.lst upd_same (e2.mono e)), h⟩
      | dict es =>
        obtain ⟨xs, e1, e2⟩ := st
        obtain ⟨r2, e⟩ := r.freeze e1 ls gp h0
        exact ⟨_, _, rfl, e, r2, .dat (.dct upd_same (e2.mono e)), h⟩
      | _ => exact st.elim
    | pot b => exact h.elim
    | _ => cases yo
/-- a value that is not owned stays while others are made -/
theorem Res.stay (no : a.isOwn = false) (q : Res K E ρ G σ H a v) (e : Ex G G') : Res K E ρ' G' σ H' a v := by
  rcases q with ⟨i, rfl, z⟩ | ⟨_, hh⟩ | ⟨yo, _⟩
  · exact .inl ⟨i, rfl, z⟩
  · exact .inr (.inl ⟨no, hh.still e no⟩)
  · rw [no] at yo
    cases yo
end
section
variable {X : Cx}
def fVar (i : Nat) : FE := fun ρ k _ =>
  match ρ[i]? with
  | some (some (.own _ _)) => k (.at i) ρ
  | some (some (.pot _)) => k (.at i) ρ
  | some (some (.dat d)) => k (.dat d) ρ
  | some (some (.obj C fs)) => k (.obj C fs) ρ
  | some (some (.raw v)) => k (.raw v) ρ
  | some (some (.scr ns)) => k (.scr ns) ρ
  | some (some (.exn a C dd fs)) => k (.exn a C dd fs) ρ
  | _ => False
theorem ref_var {i : Nat} : RefE X (tVar i) (fVar i) := fun W E ρ G σ H Q k x tk r lx lk h => by
  unfold fVar at h
  split at h
  · rename_i e
    obtain ⟨v, e1, hh⟩ := r.slot _ _ e
    exact ⟨v, e1, lk _ ρ G v H (Ex.refl G) r (.inl ⟨i, rfl, e1⟩) h⟩
  · rename_i e
    obtain ⟨v, e1, hh⟩ := r.slot _ _ e
    exact ⟨v, e1, lk _ ρ G v H (Ex.refl G) r (.inl ⟨i, rfl, e1⟩) h⟩
  · rename_i e
    obtain ⟨v, e1, hh⟩ := r.slot _ _ e
    exact ⟨v, e1, lk _ ρ G v H (Ex.refl G) r (.inr (.inl ⟨rfl, hh⟩)) h⟩
  · rename_i e
    obtain ⟨v, e1, hh⟩ := r.slot _ _ e
    exact ⟨v, e1, lk _ ρ G v H (Ex.refl G) r (.inr (.inl ⟨rfl, hh⟩)) h⟩
  · rename_i e
    obtain ⟨v, e1, hh⟩ := r.slot _ _ e
    exact ⟨v, e1, lk _ ρ G v H (Ex.refl G) r (.inr (.inl ⟨rfl, hh⟩)) h⟩
  · rename_i e
    obtain ⟨v, e1, hh⟩ := r.slot _ _ e
    exact ⟨v, e1, lk _ ρ G v H (Ex.refl G) r (.inr (.inl ⟨rfl, hh⟩)) h⟩
  · rename_i e
    obtain ⟨v, e1, hh⟩ := r.slot _ _ e
    exact ⟨v, e1, lk _ ρ G v H (Ex.refl G) r (.inr (.inl ⟨rfl, hh⟩)) h⟩
  · exact h.elim
/-- a slot is read whose list is to stay from now on -/
def fFrz (i : Nat) : FE := fun ρ k x =>
  match ρ[i]? with
  | some (some (.own false d)) => k (.dat d) (ρ.set i (some (.dat d)))
  | _ => fVar i ρ k x
theorem ref_frz {i : Nat} : RefE X (tVar i) (fFrz i) := fun W E ρ G σ H Q k x tk r lx lk h => by
  unfold fFrz at h
  split at h
  · rename_i d e
    obtain ⟨p, o, e1, rp, gx, r2⟩ := r.frz e
    exact ⟨_, e1, lk _ _ _ _ H gx r2 (.dat rp) h⟩
  · exact ref_var W E ρ G σ H Q k x tk r lx lk h
theorem xe_var (i : Nat) {n : Str} {pos : Pos} (h : PE X (.Name n pos) (tVar i)) : TrE X (.Name n pos) (fVar i) := .of h ref_var
theorem xe_frz (i : Nat) {n : Str} {pos : Pos} (h : PE X (.Name n pos) (tVar i)) : TrE X (.Name n pos) (fFrz i) := .of h ref_frz
def fC (a : AV) : FE := fun ρ k _ => k a ρ
theorem ref_c {v : V} {d : D} (h : ∀ G, Rp X.K G v d) : RefE X (tC v) (fC (.dat d)) := fun W E ρ G σ H Q k x tk r lx lk hk => lk _ ρ G v H (Ex.refl G) r (.dat (h G)) hk
theorem xe_int {i j pos} : TrE X (.Constant (.int i) j pos) (fC (.dat (.int i))) := .of pe_int (ref_c fun _ => .int i)
theorem xe_bl {i j pos} : TrE X (.Constant (.bool i) j pos) (fC (.dat (.bool i))) := .of pe_bl (ref_c fun _ => .bl i)
theorem xe_str {i j pos} : TrE X (.Constant (.str i) j pos) (fC (.dat (.str i))) := .of pe_str (ref_c fun _ => .str i)
theorem xe_non {j pos} : TrE X (.Constant .none j pos) (fC (.dat .none)) := .of pe_non (ref_c fun _ => .non)
theorem xe_c {e : Expr} {v : V} {d : D} (p : PE X e (tC v)) (h : ∀ G, Rp X.K G v d) : TrE X e (fC (.dat d)) := .of p (ref_c h)
end
section
variable {X : Cx} {fa fb fc : FE} {a b c : Expr} {pos : Pos}
/-- two operands, the first one kept while the second one is made -/
def f2 (g : D → D → (Out → Prop) → Prop) (fa fb : FE) : FE := fun ρ k x => fa ρ (fun a ρ1 => fz a fun a' => fb ρ1 (fun b ρ2 => vw ρ2 a' fun d => vw ρ2 b fun e => g d e fun o => k o.av ρ2) x) x
theorem ref_op {r : R2} {g : D → D → (Out → Prop) → Prop} (y : ∀ G H x y d e, Ex G H → Vw X.K G H x d → Vw X.K G H y e → Yields X.K G H (r x y) (g d e)) {ta tb : TE} (ha : RefE X ta fa) (hb : RefE X tb fb) : RefE X (tOp r ta tb) (f2 g fa fb) :=
  fun W E ρ G σ H Q k x tk R lx lk h => by
  refine ha W E ρ G σ H _ _ x tk R lx (fun a ρ1 G1 v H1 e1 R1 q1 h1 => ?_) h
  obtain ⟨a', G1', no, e1', R1', q1', h1⟩ := q1.fz R1 h1
  refine hb W E ρ1 G1' σ H1 _ _ x tk R1' lx (fun b ρ2 G2 u H2 e2 R2 q2 h2 => ?_) h1
  have q1'' := Res.stay (ρ' := ρ2) (H' := H2) no q1' e2
  obtain ⟨d, vd, h2⟩ := q1''.vw R2 h2
  obtain ⟨e, ve, h2⟩ := q2.vw R2 h2
  exact y G2 H2 v u d e R2.sub vd ve Q _ (outLk R2 fun a ρ' G' v' H' g1 => lk a ρ' G' v' H' (((e1.trans e1').trans e2).trans g1)) h2
theorem xe_op {op : Operator} {r : R2} {g : D → D → (Out → Prop) → Prop} (ho : OpR X (binaryOp op) r) (y : ∀ G H x y d e, Ex G H → Vw X.K G H x d → Vw X.K G H y e → Yields X.K G H (r x y) (g d e)) (ha : TrE X a fa) (hb : TrE X b fb) :
    TrE X (.BinOp a op b pos) (f2 g fa fb) := .of (pe_op ho pe_w pe_w) (ref_op y ha hb)
theorem xe_cmp {op : CmpOp} {r : R2} {g : D → D → (Out → Prop) → Prop} (ho : OpR X (compareOp op) r) (y : ∀ G H x y d e, Ex G H → Vw X.K G H x d → Vw X.K G H y e → Yields X.K G H (r x y) (g d e)) (hm : behindInMarks op b = false) (ha : TrE X a fa) (hb : TrE X b fb) :
    TrE X (.Compare a [op] [b] pos) (f2 g fa fb) := .of (pe_cmpR ho pe_w pe_w hm) (ref_op y ha hb)
theorem xe_ix {r : R2} {g : D → D → (Out → Prop) → Prop} (ho : IxR X r) (y : ∀ G H x y d e, Ex G H → Vw X.K G H x d → Vw X.K G H y e → Yields X.K G H (r x y) (g d e)) (hs : PlainIx b) (ha : TrE X a fa) (hb : TrE X b fb) :
    TrE X (.Subscript a b pos) (f2 g fa fb) := .of (pe_ix ho pe_w pe_w hs) (ref_op y ha hb)
def f1 (g : D → (Out → Prop) → Prop) (fa : FE) : FE := fun ρ k x => fa ρ (fun a ρ1 => vw ρ1 a fun d => g d fun o => k o.av ρ1) x
theorem ref_un {r : V → Hp → VK → Prop} {g : D → (Out → Prop) → Prop} (y : ∀ G H x d, Ex G H → Vw X.K G H x d → Yields X.K G H (r x) (g d)) {ta : TE} (ha : RefE X ta fa) : RefE X (tUn r ta) (f1 g fa) :=
  fun W E ρ G σ H Q k x tk R lx lk h => by
  refine ha W E ρ G σ H _ _ x tk R lx (fun a ρ1 G1 v H1 e1 R1 q1 h1 => ?_) h
  obtain ⟨d, vd, h1⟩ := q1.vw R1 h1
  exact y G1 H1 v d R1.sub vd Q _ (outLk R1 fun a ρ' G' v' H' g1 => lk a ρ' G' v' H' (e1.trans g1)) h1
theorem xe_un {op : UnaryOp} {r : V → Hp → VK → Prop} {g : D → (Out → Prop) → Prop} (ho : UnR X (unaryOp op) r) (y : ∀ G H x d, Ex G H → Vw X.K G H x d → Yields X.K G H (r x) (g d)) (ha : TrE X a fa) : TrE X (.UnaryOp op a pos) (f1 g fa) := .of (pe_un ho pe_w) (ref_un y ha)
end
section
variable {X : Cx} {fa : FE} {fr : FA} {e : Expr} {es : List Expr} {pos : Pos}
def fNil : FA := fun ρ k _ => k [] ρ
def fCons (fa : FE) (fr : FA) : FA := fun ρ k x => fa ρ (fun a ρ1 => fz a fun a' => fr ρ1 (fun as ρ2 => k (a' :: as) ρ2) x) x
theorem xa_nil : TrA X [] fNil := .of pa_nil fun W E ρ G σ H Q k x tk R lx lk h => lk [] ρ G [] H (Ex.refl G) R .nil h
theorem ref_cons {ta : TE} {tr : TA} (ha : RefE X ta fa) (hr : RefA X tr fr) : RefA X (tCons ta tr) (fCons fa fr) := fun W E ρ G σ H Q k x tk R lx lk h => by
  refine ha W E ρ G σ H _ _ x tk R lx (fun a ρ1 G1 v H1 e1 R1 q1 h1 => ?_) h
  obtain ⟨a', G1', no, e1', R1', q1', h1⟩ := q1.fz R1 h1
  refine hr W E ρ1 G1' σ H1 _ _ x tk R1' lx (fun as ρ2 G2 vs H2 e2 R2 q2 h2 => ?_) h1
  exact lk (a' :: as) ρ2 G2 (v :: vs) H2 ((e1.trans e1').trans e2) R2 (.cons ⟨no, q1'.stay no e2⟩ q2) h2
theorem xa_cons (ha : TrE X e fa) (hr : TrA X es fr) (hs : starEach (e :: es) X.env = (false, eval e X.env) :: starEach es X.env := by rfl) : TrA X (e :: es) (fCons fa fr) := .of (pa_cons pe_w pa_w hs) (ref_cons ha hr)
/-- all as trees -/
def vws (ρ : S) : List AV → (List D → Prop) → Prop
  | [], k => k []
  | a :: as, k => vw ρ a fun d => vws ρ as fun ds => k (d :: ds)
/-- all as trees that stay: none of them is what a slot owns -/
def dats : List AV → (List D → Prop) → Prop
  | [], k => k []
  | .dat d :: as, k => dats as fun ds => k (d :: ds)
  | _ :: _, _ => False
theorem dats_rps {K : PySem.W.Frag} {E : Ent} {ρ : S} {G H : Hp} {σ : L2.St} : ∀ {as : List AV} {vs : List V} {k : List D → Prop}, Paired (fun a v => a.isOwn = false ∧ Res K E ρ G σ H a v) as vs → dats as k → ∃ ds, Rps K G vs ds ∧ k ds
  | _, _, _, .nil, h => ⟨[], .nil, h⟩
  | a :: as, v :: vs, k, .cons q t, h => by
    cases a with
    | dat d =>
      obtain ⟨ds, r, hk⟩ := dats_rps (k := fun ds => k (d :: ds)) t h
      refine ⟨d :: ds, .cons ?_ r, hk⟩
      rcases q.2 with ⟨i, z, _⟩ | ⟨_, hh⟩ | ⟨z, _⟩
      · cases z
      · exact hh
      · cases z
    | _ => exact h.elim
theorem vws_vw {K : PySem.W.Frag} {E : Ent} {ρ : S} {G H : Hp} {σ : L2.St} (R : Rel K E ρ G σ H) : ∀ {as : List AV} {vs : List V} {k : List D → Prop}, Paired (fun a v => a.isOwn = false ∧ Res K E ρ G σ H a v) as vs → vws ρ as k → ∃ ds, Paired (Vw K G H) vs ds ∧ k ds
  | _, _, _, .nil, h => ⟨[], .nil, h⟩
  | a :: as, v :: vs, k, .cons q t, h => by
    obtain ⟨d, hd, h⟩ := q.2.vw R h
    obtain ⟨ds, r, hk⟩ := vws_vw R (k := fun ds => k (d :: ds)) t h
    exact ⟨d :: ds, .cons hd r, hk⟩
def fDisp (o : List D → Out) (fr : FA) : FE := fun ρ k x => fr ρ (fun as ρ1 => dats as fun ds => ds.length ≤ sizeLine ∧ k (o ds).av ρ1) x
theorem ref_lst {t : TA} (h : RefA X t fr) : RefE X (tLst t) (fDisp .newl fr) := fun W E ρ G σ H Q k x tk R lx lk hf => by
  refine h W E ρ G σ H _ _ x tk R lx (fun as ρ1 G1 vs H1 e1 R1 q1 h1 => ?_) hf
  obtain ⟨ds, rp, hl, hk⟩ := dats_rps q1 h1
  refine ⟨by rw [rp.len]; exact hl, fun p n => ?_⟩
  exact (outLk R1 fun a ρ' G' v' H' g1 => lk a ρ' G' v' H' (e1.trans g1)).newl p vs ds n rp hk
theorem ref_tup {t : TA} (h : RefA X t fr) : RefE X (tTup t) (fDisp .newt fr) := fun W E ρ G σ H Q k x tk R lx lk hf => by
  refine h W E ρ G σ H _ _ x tk R lx (fun as ρ1 G1 vs H1 e1 R1 q1 h1 => ?_) hf
  obtain ⟨ds, rp, hl, hk⟩ := dats_rps q1 h1
  refine ⟨by rw [rp.len]; exact hl, fun p n => ?_⟩
  exact (outLk R1 fun a ρ' G' v' H' g1 => lk a ρ' G' v' H' (e1.trans g1)).newt p vs ds n rp hk
theorem xe_lst (h : TrA X es fr) : TrE X (.List es pos) (fDisp .newl fr) := .of (pe_lst pa_w) (ref_lst h)
theorem xe_tup {x1} (h : TrA X es fr) : TrE X (.Tuple es x1 pos) (fDisp .newt fr) := .of (pe_tup pa_w) (ref_tup h)
/-- a built-in that reads -/
def fB (g : List D → (Out → Prop) → Prop) (fr : FA) : FE := fun ρ k x => fr ρ (fun as ρ1 => vws ρ1 as fun ds => g ds fun o => k o.av ρ1) x
theorem ref_cb {r : List V → Hp → VK → Prop} {g : List D → (Out → Prop) → Prop} (y : ∀ G H vs ds, Ex G H → Paired (Vw X.K G H) vs ds → Yields X.K G H (r vs) (g ds)) {t : TA} (h : RefA X t fr) : RefE X (tCB r t) (fB g fr) := fun W E ρ G σ H Q k x tk R lx lk hf => by
  refine h W E ρ G σ H _ _ x tk R lx (fun as ρ1 G1 vs H1 e1 R1 q1 h1 => ?_) hf
  obtain ⟨ds, rp, hk⟩ := vws_vw R1 q1 h1
  exact y G1 H1 vs ds R1.sub rp Q _ (outLk R1 fun a ρ' G' v' H' g1 => lk a ρ' G' v' H' (e1.trans g1)) hk
end
end Tr
set_option Elab.async false
set_option linter.all false
set_option maxRecDepth 100000
namespace Tr
open PySem PySem.Spec PyProof.Rows L2 Evl Kc
def isB (d : D) (k : Bool → Prop) : Prop :=
  match d with
  | .bool b => k b
  | _ => False
theorem isB_of {d : D} {k : Bool → Prop} (h : isB d k) : ∃ b, d = .bool b ∧ k b := by
  cases d <;> first | exact h.elim | exact ⟨_, rfl, h⟩
def TrW (X : Cx) (e : Expr) (f : FT) : Prop := ∃ t, PW X e t ∧ RefT X t f
section
variable {X : Cx} {fa fb fc : FE} {ft fu : FT} {a b c e : Expr} {rest : List Expr} {pos : Pos}
theorem TrW.t (h : TrW X e ft) : TrT X e ft := by
  obtain ⟨t, p, r⟩ := h
  exact .of p.pt r
def fTest (fa : FE) : FT := fun ρ k x => fa ρ (fun a ρ1 => vw ρ1 a fun d => isB d fun b => k b ρ1) x
theorem ref_test {t : TE} (h : RefE X t fa) : RefT X (tB t) (fTest fa) := fun W E ρ G σ H Q k x tk R lx lk hf => by
  refine h W E ρ G σ H _ _ x tk R lx (fun a ρ1 G1 v H1 e1 R1 q1 h1 => ?_) hf
  obtain ⟨d, vd, h1⟩ := q1.vw R1 h1
  obtain ⟨b, rfl, h1⟩ := isB_of h1
  exact ⟨b, vd.bls, lk b ρ1 G1 H1 e1 R1 h1⟩
theorem xt_val (h : TrE X e fa) (he : ∀ whole, isTrue e X.env whole = (do let v ← whole; standAt e.pos; holding [v] (truthy v)) := by intro _; rfl) : TrT X e (fTest fa) := .of (pt_val pe_w he) (ref_test h)
theorem xt_cmp {op : CmpOp} {r : R2} {g : D → D → (Out → Prop) → Prop} (ho : OpR X (compareOp op) r) (y : ∀ G H x y d e, Ex G H → Vw X.K G H x d → Vw X.K G H y e → Yields X.K G H (r x y) (g d e)) (hm : behindInMarks op b = false) (ha : TrE X a fa) (hb : TrE X b fb) :
    TrT X (.Compare a [op] [b] pos) (fTest (f2 g fa fb)) := .of (pt_cmpR ho pe_w pe_w hm) (ref_test (ref_op y ha hb))
def fNot (ft : FT) : FT := fun ρ k x => ft ρ (fun b ρ1 => k (!b) ρ1) x
theorem xt_not (h : TrT X a ft) : TrT X (.UnaryOp .Not a pos) (fNot ft) := .of (pt_not pt_w) fun W E ρ G σ H Q k x tk R lx lk hf =>
  h W E ρ G σ H _ _ x tk R lx (fun b ρ1 G1 H1 e1 R1 h1 => lk (!b) ρ1 G1 H1 e1 R1 h1) hf
def fAnd (ft fu : FT) : FT := fun ρ k x => ft ρ (fun b ρ1 => if b = true then fu ρ1 k x else k false ρ1) x
def fOr (ft fu : FT) : FT := fun ρ k x => ft ρ (fun b ρ1 => if b = true then k true ρ1 else fu ρ1 k x) x
theorem LkT.up {K : PySem.W.Frag} {E : Ent} {G G1 : Hp} {σ : L2.St} {k : Bool → S → Prop} {Q : Bool → Hp → Prop} (lk : LkT K E G σ k Q) (e : Ex G G1) : LkT K E G1 σ k Q := fun b ρ' G' H' e1 R h => lk b ρ' G' H' (e.trans e1) R h
theorem LkE.up {K : PySem.W.Frag} {E : Ent} {G G1 : Hp} {σ : L2.St} {k : KE} {Q : VK} (lk : LkE K E G σ k Q) (e : Ex G G1) : LkE K E G1 σ k Q := fun b ρ' G' v H' e1 R q h => lk b ρ' G' v H' (e.trans e1) R q h
theorem xw_and1 (h : TrT X a ft) : TrW X (.BoolOp .And [a] pos) ft := ⟨_, pw_and1 pt_w, h⟩
theorem xw_or1 (h : TrT X a ft) : TrW X (.BoolOp .Or [a] pos) ft := ⟨_, pw_or1 pt_w, h⟩
theorem xw_and (h : TrT X a ft) (h2 : TrW X (.BoolOp .And (b :: rest) pos) fu) : TrW X (.BoolOp .And (a :: b :: rest) pos) (fAnd ft fu) := by
  obtain ⟨u, p, r⟩ := h2
  refine ⟨_, pw_and pt_w p, fun W E ρ G σ H Q k x tk R lx lk hf => ?_⟩
  refine h W E ρ G σ H _ _ x tk R lx (fun b ρ1 G1 H1 e1 R1 h1 => ?_) hf
  cases b with
  | true => exact r W E ρ1 G1 σ H1 Q k x tk R1 lx (lk.up e1) h1
  | false => exact lk false ρ1 G1 H1 e1 R1 h1
theorem xw_or (h : TrT X a ft) (h2 : TrW X (.BoolOp .Or (b :: rest) pos) fu) : TrW X (.BoolOp .Or (a :: b :: rest) pos) (fOr ft fu) := by
  obtain ⟨u, p, r⟩ := h2
  refine ⟨_, pw_or pt_w p, fun W E ρ G σ H Q k x tk R lx lk hf => ?_⟩
  refine h W E ρ G σ H _ _ x tk R lx (fun b ρ1 G1 H1 e1 R1 h1 => ?_) hf
  cases b with
  | true => exact lk true ρ1 G1 H1 e1 R1 h1
  | false => exact r W E ρ1 G1 σ H1 Q k x tk R1 lx (lk.up e1) h1
def fIf (ft : FT) (fa fb : FE) : FE := fun ρ k x => ft ρ (fun b ρ1 => if b = true then fa ρ1 k x else fb ρ1 k x) x
theorem xe_if (h : TrT X c ft) (ha : TrE X a fa) (hb : TrE X b fb) : TrE X (.IfExp c a b pos) (fIf ft fa fb) := .of (pe_ifExp pt_w pe_w pe_w) fun W E ρ G σ H Q k x tk R lx lk hf => by
  refine h W E ρ G σ H _ _ x tk R lx (fun b ρ1 G1 H1 e1 R1 h1 => ?_) hf
  cases b with
  | true => exact ha W E ρ1 G1 σ H1 Q k x tk R1 lx (lk.up e1) h1
  | false => exact hb W E ρ1 G1 σ H1 Q k x tk R1 lx (lk.up e1) h1
def fAndV (fa fb : FE) : FE := fun ρ k x => fa ρ (fun a ρ1 => vw ρ1 a fun d => isB d fun b => if b = true then fb ρ1 k x else k (.dat (.bool false)) ρ1) x
def fOrV (fa fb : FE) : FE := fun ρ k x => fa ρ (fun a ρ1 => vw ρ1 a fun d => isB d fun b => if b = true then k (.dat (.bool true)) ρ1 else fb ρ1 k x) x
def fNotV (fa : FE) : FE := fun ρ k x => fa ρ (fun a ρ1 => vw ρ1 a fun d => isB d fun b => k (.dat (.bool (!b))) ρ1) x
theorem xe_one {op} (h : TrE X a fa) : TrE X (.BoolOp op [a] pos) fa := .of (pe_one pe_w) h
theorem xe_and (h : TrE X a fa) (h2 : TrE X (.BoolOp .And (b :: rest) pos) fb) : TrE X (.BoolOp .And (a :: b :: rest) pos) (fAndV fa fb) := .of (pe_and pe_w pe_w) fun W E ρ G σ H Q k x tk R lx lk hf => by
  refine h W E ρ G σ H _ _ x tk R lx (fun a ρ1 G1 v H1 e1 R1 q1 h1 => ?_) hf
  obtain ⟨d, vd, h1⟩ := q1.vw R1 h1
  obtain ⟨b, rfl, h1⟩ := isB_of h1
  refine ⟨b, vd.bls, ?_⟩
  cases b with
  | true => exact h2 W E ρ1 G1 σ H1 Q k x tk R1 lx (lk.up e1) h1
  | false => exact lk _ ρ1 G1 _ H1 e1 R1 (.dat (.bl false)) h1
theorem xe_or (h : TrE X a fa) (h2 : TrE X (.BoolOp .Or (b :: rest) pos) fb) : TrE X (.BoolOp .Or (a :: b :: rest) pos) (fOrV fa fb) := .of (pe_or pe_w pe_w) fun W E ρ G σ H Q k x tk R lx lk hf => by
  refine h W E ρ G σ H _ _ x tk R lx (fun a ρ1 G1 v H1 e1 R1 q1 h1 => ?_) hf
  obtain ⟨d, vd, h1⟩ := q1.vw R1 h1
  obtain ⟨b, rfl, h1⟩ := isB_of h1
  refine ⟨b, vd.bls, ?_⟩
  cases b with
  | true => exact lk _ ρ1 G1 _ H1 e1 R1 (.dat (.bl true)) h1
  | false => exact h2 W E ρ1 G1 σ H1 Q k x tk R1 lx (lk.up e1) h1
theorem xe_not (h : TrE X a fa) : TrE X (.UnaryOp .Not a pos) (fNotV fa) := .of (pe_not pe_w) fun W E ρ G σ H Q k x tk R lx lk hf => by
  refine h W E ρ G σ H _ _ x tk R lx (fun a ρ1 G1 v H1 e1 R1 q1 h1 => ?_) hf
  obtain ⟨d, vd, h1⟩ := q1.vw R1 h1
  obtain ⟨b, rfl, h1⟩ := isB_of h1
  exact ⟨b, vd.bls, lk _ ρ1 G1 _ H1 e1 R1 (.dat (.bl (!b))) h1⟩
def isI (d : D) (k : Int → Prop) : Prop :=
  match d with
  | .int i => k i
  | _ => False
theorem isI_of {d : D} {k : Int → Prop} (h : isI d k) : ∃ b, d = .int b ∧ k b := by
  cases d <;> first | exact h.elim | exact ⟨_, rfl, h⟩
def fCh (p p' : Int → Int → Bool) (fa fb fc : FE) : FE := fun ρ k x => fa ρ (fun a ρ1 => vw ρ1 a fun d => isI d fun i => fb ρ1 (fun b ρ2 => vw ρ2 b fun e => isI e fun j =>
  if p i j = true then fc ρ2 (fun c ρ3 => vw ρ3 c fun e => isI e fun l => k (.dat (.bool (p' j l))) ρ3) x else k (.dat (.bool false)) ρ2) x) x
theorem ref_ch {p p' : Int → Int → Bool} {ta tb tc : TE} (ha : RefE X ta fa) (hb : RefE X tb fb) (hc : RefE X tc fc) : RefE X (tChain (rI0 fun i j => .bl (p i j)) (rI0 fun i j => .bl (p' i j)) ta tb tc) (fCh p p' fa fb fc) := fun W E ρ G σ H Q k x tk R lx lk hf => by
  refine ha W E ρ G σ H _ _ x tk R lx (fun a ρ1 G1 v H1 e1 R1 q1 h1 => ?_) hf
  obtain ⟨d, vd, h1⟩ := q1.vw R1 h1
  obtain ⟨i, rfl, h1⟩ := isI_of h1
  refine hb W E ρ1 G1 σ H1 _ _ x tk R1 lx (fun b ρ2 G2 v2 H2 e2 R2 q2 h2 => ?_) h1
  obtain ⟨d2, vd2, h2⟩ := q2.vw R2 h2
  obtain ⟨j, e0, h2z⟩ := isI_of h2
  subst e0
  refine ⟨i, j, vd.ints, vd2.ints, p i j, rfl, ?_⟩
  split at h2z
  · rename_i hp
    rw [if_pos hp]
    refine hc W E ρ2 G2 σ H2 _ _ x tk R2 lx (fun b ρ3 G3 v3 H3 e3 R3 q3 h3 => ?_) h2z
    obtain ⟨d3, vd3, h3⟩ := q3.vw R3 h3
    obtain ⟨l, rfl, h3⟩ := isI_of h3
    exact ⟨j, l, vd2.ints, vd3.ints, lk _ ρ3 G3 _ H3 ((e1.trans e2).trans e3) R3 (.dat (.bl _)) h3⟩
  · rename_i hp
    rw [if_neg hp]
    exact lk _ ρ2 G2 _ H2 (e1.trans e2) R2 (.dat (.bl false)) h2z
theorem xe_ch {op op' : CmpOp} {p p' : Int → Int → Bool} (ho : OpR X (compareOp op) (rI0 fun i j => .bl (p i j))) (ho' : OpR X (compareOp op') (rI0 fun i j => .bl (p' i j))) (ha : TrE X a fa) (hb : TrE X b fb) (hc : TrE X c fc)
    (hm : lastMarks [op, op'] [b, c] = false := by with_unfolding_all rfl) : TrE X (.Compare a [op, op'] [b, c] pos) (fCh p p' fa fb fc) := .of (pe_chain ho ho' pe_w pe_w pe_w hm) (ref_ch ha hb hc)
theorem xt_ch {op op' : CmpOp} {p p' : Int → Int → Bool} (ho : OpR X (compareOp op) (rI0 fun i j => .bl (p i j))) (ho' : OpR X (compareOp op') (rI0 fun i j => .bl (p' i j))) (ha : TrE X a fa) (hb : TrE X b fb) (hc : TrE X c fc)
    (hm : lastMarks [op, op'] [b, c] = false := by with_unfolding_all rfl) : TrT X (.Compare a [op, op'] [b, c] pos) (fTest (fCh p p' fa fb fc)) := .of (pt_chain ho ho' pe_w pe_w pe_w hm) (ref_test (ref_ch ha hb hc))
end
def tyN : D → String
  | .none => "NoneType"
  | .bool _ => "bool"
  | .int _ => "int"
  | .str _ => "str"
  | .list _ => "list"
  | .tuple _ => "tuple"
  | .dict _ => "dict"
abbrev tyNs : List String := ["NoneType", "bool", "int", "str", "list", "tuple", "dict"]
theorem tyN_mem (d : D) : tyN d ∈ tyNs := by cases d <;> simp [tyN, tyNs]
def isT (T : String) (d : D) : Bool := kitB (tyN d) T == some true
section
variable {K : PySem.W.Frag} {G H : Hp} {v : V} {d : D}
theorem Vw.ty (s : Ex G H) (h : Vw K G H v d) : TyX K H v (.type (tyN d)) := by
  cases d with
  | none => rw [h.nons]; exact .base .non
  | bool b => rw [h.bls]; exact .base (.bl b)
  | int b => rw [h.ints]; exact .base (.int b)
  | str b => rw [h.strs]; exact .base (.str b)
  | list ds => obtain ⟨p, xs, rfl, e, _⟩ := h.lsts s; exact .base (.lst e)
  | tuple ds =>
    obtain ⟨p, xs, rfl, e, _⟩ := h.tups s
    rcases e with (e | ⟨o, e⟩) | ⟨o, its, n, e, c, _⟩
    · exact .base (.tup e)
    · exact .fTuple e
    · exact .kTuple e c
  | dict ds =>
    obtain ⟨p, xs, rfl, e, _⟩ := h.dcts s
    exact .base (.dK e)
theorem isT_kit {T : String} (hT : ∀ t ∈ tyNs, (kitB t T).isSome = true) (d : D) : PySem.W.kitOne K (.type (tyN d)) (.type T) = some (isT T d) := by
  refine kit_ty ?_
  have h := hT _ (tyN_mem d)
  unfold isT
  cases e : kitB (tyN d) T with
  | none => exact absurd h (by rw [e]; intro z; cases z)
  | some b => cases b <;> rfl
end
section
variable {X : Cx} {fa : FE} {a : Expr} {n : Str} {T : String} {p p1 pos : Pos}
theorem xe_isi (hg : Gl X "isinstance") (hm : X.mg "isinstance" = none) (hT : ∀ t ∈ tyNs, (kitB t T).isSome = true) (pt : PE X (.Name n p1) (tC (.ty T))) (ha : TrE X a fa) (hs : starEach [a, .Name n p1] X.env = (false, eval a X.env) :: starEach [.Name n p1] X.env := by rfl)
    (hpl : (backTo pos (starEach [.Name n p1] X.env)).any (·.1) = false := by rfl) (hs1 : starEach [.Name n p1] X.env = (false, eval (.Name n p1) X.env) :: starEach [] X.env := by rfl) :
    TrE X (.Call (.Name "isinstance" p) [a, .Name n p1] [] pos) (f1 (fun d k => k (.val (.bool (isT T d)))) fa) := .of (pe_callB call_isi hg hm (by decide +kernel) (pa_cons pe_w (pa_cons pt pa_nil hs1) hs) (by decide) (by decide) hs hpl) fun W E ρ G σ H Q k x tk R lx lk hf => by
  refine ha W E ρ G σ H _ _ x tk R lx (fun a ρ1 G1 v H1 e1 R1 q1 h1 => ?_) hf
  obtain ⟨d, vd, h1⟩ := q1.vw R1 h1
  exact ⟨v, .ty T, .type (tyN d), .type T, isT T d, rfl, .ty T, vd.ty R1.sub, isT_kit hT d, (outLk R1 (lk.up e1)).val _ _ (.bl _) h1⟩
theorem kitAny_list {K : PySem.W.Frag} {t : Value} (g : String → Bool) : ∀ {Ts : List String}, (∀ T ∈ Ts, PySem.W.kitOne K t (.type T) = some (g T)) → PySem.W.kitAny K t (Ts.map Value.type) = some (Ts.any g)
  | [], _ => rfl
  | T :: Ts, h => by
    have h1 := h T List.mem_cons_self
    have h2 := kitAny_list g (Ts := Ts) fun T hT => h T (List.mem_cons_of_mem _ hT)
    show PySem.W.kitAny K t (.type T :: Ts.map Value.type) = some (g T || Ts.any g)
    unfold PySem.W.kitAny
    rw [h1]
    cases g T with
    | true => rfl
    | false => exact h2
/-- isinstance(x, (S, T)) -/
theorem xe_isi2 {n2 : Str} {S T : String} {p2 p3 : Pos} {x1} (hg : Gl X "isinstance") (hm : X.mg "isinstance" = none) (hS : ∀ t ∈ tyNs, (kitB t S).isSome = true) (hT : ∀ t ∈ tyNs, (kitB t T).isSome = true) (ps : PE X (.Name n p1) (tC (.ty S))) (pt : PE X (.Name n2 p2) (tC (.ty T))) (ha : TrE X a fa)
    (hs : starEach [a, .Tuple [.Name n p1, .Name n2 p2] x1 p3] X.env = (false, eval a X.env) :: starEach [.Tuple [.Name n p1, .Name n2 p2] x1 p3] X.env := by rfl)
    (hpl : (backTo pos (starEach [.Tuple [.Name n p1, .Name n2 p2] x1 p3] X.env)).any (·.1) = false := by rfl) (hs1 : starEach [.Tuple [.Name n p1, .Name n2 p2] x1 p3] X.env = (false, eval (.Tuple [.Name n p1, .Name n2 p2] x1 p3) X.env) :: starEach [] X.env := by rfl)
    (hs2 : starEach [.Name n p1, .Name n2 p2] X.env = (false, eval (.Name n p1) X.env) :: starEach [.Name n2 p2] X.env := by rfl) (hs3 : starEach [.Name n2 p2] X.env = (false, eval (.Name n2 p2) X.env) :: starEach [] X.env := by rfl) :
    TrE X (.Call (.Name "isinstance" p) [a, .Tuple [.Name n p1, .Name n2 p2] x1 p3] [] pos) (f1 (fun d k => k (.val (.bool (isT S d || isT T d)))) fa) :=
  .of (pe_callB call_isiT hg hm (by decide +kernel) (pa_cons pe_w (pa_cons (pe_tup (pa_cons ps (pa_cons pt pa_nil hs3) hs2)) pa_nil hs1) hs) (by decide) (by decide) hs hpl) fun W E ρ G σ H Q k x tk R lx lk hf => by
  refine ha W E ρ G σ H _ _ x tk R lx (fun a ρ1 G1 v H1 e1 R1 q1 h1 => ?_) hf
  obtain ⟨d, vd, h1⟩ := q1.vw R1 h1
  refine ⟨by show 2 ≤ sizeLine; decide, fun tp ntp => ?_⟩
  obtain ⟨R2, e2⟩ := R1.made (o := .tup [.ty S, .ty T]) ntp
  have vd2 : Vw X.K _ (upd H1 tp (.tup [.ty S, .ty T])) v d := vd.mono e2 fun q _ nq => upd_ne fun e => nq (by rw [e]; exact ntp)
  refine ⟨v, tp, [.ty S, .ty T], .type (tyN d), [.type S, .type T], (isT S d || isT T d), rfl, upd_same, .cons (.ty S) (.cons (.ty T) .nil), vd2.ty R2.sub, ?_, ?_⟩
  · have := kitAny_list (K := X.K) (t := .type (tyN d)) (fun T => isT T d) (Ts := [S, T]) fun U hU => by
      simp only [List.mem_cons, List.mem_nil_iff, or_false] at hU
      rcases hU with rfl | rfl
      · exact isT_kit hS d
      · exact isT_kit hT d
    simpa using this
  · exact (outLk R2 ((lk.up e1).up e2)).val _ _ (.bl _) h1
end
end Tr
set_option Elab.async false
set_option linter.all false
set_option maxRecDepth 100000
namespace Tr
open PySem PySem.Spec PyProof.Rows L2 Evl Kc
section
variable {K : PySem.W.Frag} {H : Hp}
mutual
theorem Rp.dp : ∀ {v : V} {d : D}, Rp K H v d → d.canLay0 = true → Dp K H v d
  | _, _, .non, _ => .non
  | _, _, .bl b, _ => .bl b
  | _, _, .int i, _ => .int i
  | _, _, .str x, _ => .str x
  | _, _, .lst h a, c => .lst (.inl (.inl h)) (Rps.dp a (by simpa only [PyData.canLay0] using c))
  | _, _, .tup h a, c => .tup h (Rps.dp a (by simpa only [PyData.canLay0] using c))
  | _, _, .dct h a, c => by simp only [PyData.canLay0] at c; cases c
theorem Rps.dp : ∀ {v : List V} {d : List D}, Rps K H v d → PyData.canLayAll0 d = true → DpAll K H v d
  | _, _, .nil, _ => .nil
  | _, _, .cons h a, c => by
    simp only [PyData.canLayAll0, Bool.and_eq_true] at c
    exact .cons (Rp.dp h c.1) (Rps.dp a c.2)
end
end
abbrev Op2 := D → D → (Out → Prop) → Prop
def Y2 (K : PySem.W.Frag) (r : R2) (g : Op2) : Prop := ∀ G H x y d e, Ex G H → Vw K G H x d → Vw K G H y e → Yields K G H (r x y) (g d e)
def gAdd : Op2 := fun d e k =>
  match d, e with
  | .int i, .int j => k (.val (.int (i + j)))
  | .str a, .str b => a.length + b.length ≤ sizeLine ∧ k (.val (.str (a ++ b)))
  | .list a, .list b => a.length + b.length ≤ sizeLine ∧ k (.newl (a ++ b))
  | .tuple a, .tuple b => a.length + b.length ≤ sizeLine ∧ k (.newt (a ++ b))
  | _, _ => False
def gI (C : Int → Int → Prop) (g : Int → Int → D) : Op2 := fun d e k =>
  match d, e with
  | .int i, .int j => C i j ∧ k (.val (g i j))
  | _, _ => False
def gI0 (g : Int → Int → D) : Op2 := fun d e k =>
  match d, e with
  | .int i, .int j => k (.val (g i j))
  | _, _ => False
def gMul : Op2 := fun d e k =>
  match d, e with
  | .int i, .int j => (CMul i j ∨ CMulW i j) ∧ k (.val (.int (i * j)))
  | .list a, .int j => (-(2 ^ 63) ≤ j ∧ j < 2 ^ 63 ∧ a.length * j.toNat ≤ sizeLine) ∧ k (.newl (List.replicate j.toNat a).flatten)
  | _, _ => False
section
variable {K : PySem.W.Frag} {G H : Hp}
theorem gI_of {C : Int → Int → Prop} {g : Int → Int → D} {d e : D} {k : Out → Prop} (h : gI C g d e k) : ∃ i j, d = .int i ∧ e = .int j ∧ C i j ∧ k (.val (g i j)) := by
  cases d <;> cases e <;> first | exact h.elim | exact ⟨_, _, rfl, rfl, h⟩
theorem gI0_of {g : Int → Int → D} {d e : D} {k : Out → Prop} (h : gI0 g d e k) : ∃ i j, d = .int i ∧ e = .int j ∧ k (.val (g i j)) := by
  cases d <;> cases e <;> first | exact h.elim | exact ⟨_, _, rfl, rfl, h⟩
theorem y_I {C : Int → Int → Prop} {g : Int → Int → V} {g' : Int → Int → D} (hg : ∀ G i j, Rp K G (g i j) (g' i j)) : Y2 K (rI C g) (gI C g') := fun G H x y d e s hx hy Q k o h => by
  obtain ⟨i, j, rfl, rfl, c, h⟩ := gI_of h
  exact ⟨i, j, hx.ints, hy.ints, c, o.val _ _ (hg G i j) h⟩
theorem y_I0 {g : Int → Int → V} {g' : Int → Int → D} (hg : ∀ G i j, Rp K G (g i j) (g' i j)) : Y2 K (rI0 g) (gI0 g') := fun G H x y d e s hx hy Q k o h => by
  obtain ⟨i, j, rfl, rfl, h⟩ := gI0_of h
  exact ⟨i, j, hx.ints, hy.ints, o.val _ _ (hg G i j) h⟩
theorem Rps.flat {xs : List V} {ds : List D} (h : Rps K G xs ds) : ∀ n : Nat, Rps K G (List.replicate n xs).flatten (List.replicate n ds).flatten
  | 0 => .nil
  | n + 1 => by
    simp only [List.replicate_succ, List.flatten_cons]
    exact h.app (Rps.flat h n)
theorem Rps.nil_of {xs : List V} {ds : List D} (h : Rps K G xs ds) : (xs = [] → ds = []) ∧ (ds = [] → xs = []) := by
  cases h with
  | nil => exact ⟨fun _ => rfl, fun _ => rfl⟩
  | cons h1 h2 => exact ⟨(fun z => nomatch z), (fun z => nomatch z)⟩
theorem y_add : Y2 K (fun x y H Q => (∃ i j, x = V.int i ∧ y = V.int j ∧ Q (.int (i + j)) H) ∨ (∃ i j, x = V.str i ∧ y = V.str j ∧ i.length + j.length ≤ sizeLine ∧ Q (.str (i ++ j)) H) ∨ rCat x y H Q ∨ rCatA K x y H Q) gAdd := fun G H x y d e s hx hy Q k o h => by
  cases d <;> cases e <;> first | exact h.elim | skip
  · exact .inl ⟨_, _, hx.ints, hy.ints, o.val _ _ (.int _) h⟩
  · exact .inr (.inl ⟨_, _, hx.strs, hy.strs, h.1, o.val _ _ (.str _) h.2⟩)
  · obtain ⟨p, xs, rfl, e1, r1⟩ := hx.lsts s
    obtain ⟨q, ys, rfl, e2, r2⟩ := hy.lsts s
    refine .inr (.inr (.inl ⟨p, q, xs, ys, rfl, rfl, e1, e2, ?_, fun l n => o.newl l _ _ n (r1.app r2) h.2⟩))
    rw [r1.len, r2.len]
    exact h.1
  · rename_i a b
    obtain ⟨p, xs, e0, e1, r1⟩ := hx.tups s
    obtain ⟨q, ys, f0, e2, r2⟩ := hy.tups s
    refine .inr (.inr (.inr ⟨p, q, xs, ys, e0, f0, e1, e2, ?_, fun z => ?_, fun _ z => ?_, fun _ _ l n => o.newt l _ _ n (r1.app r2) h.2⟩))
    · rw [r1.len, r2.len]
      exact h.1
    · have := r1.nil_of.1 z
      subst this
      rw [← f0]
      cases hy with
      | rp hy => exact o.same _ _ hy h.2
      | own hy => exact hy.elim
    · have := r2.nil_of.1 z
      subst this
      rw [← e0]
      have h2 := h.2
      rw [List.append_nil] at h2
      cases hx with
      | rp hx => exact o.same _ _ hx h2
      | own hx => exact hx.elim
theorem y_mul : Y2 K (fun x y H Q => rI CMul (fun i j => .int (i * j)) x y H Q ∨ rI CMulW (fun i j => .int (i * j)) x y H Q ∨ rRep x y H Q) gMul := fun G H x y d e s hx hy Q k o h => by
  cases d <;> cases e <;> first | exact h.elim | skip
  · rcases h with ⟨c | c, h⟩
    · exact .inl ⟨_, _, hx.ints, hy.ints, c, o.val _ _ (.int _) h⟩
    · exact .inr (.inl ⟨_, _, hx.ints, hy.ints, c, o.val _ _ (.int _) h⟩)
  · obtain ⟨p, xs, rfl, e1, r1⟩ := hx.lsts s
    obtain ⟨⟨h1, h2, h3⟩, h⟩ := h
    exact .inr (.inr ⟨p, _, xs, rfl, hy.ints, e1, h1, h2, by rw [r1.len]; exact h3, fun l n => o.newl l _ _ n (r1.flat _) h⟩)
end
section
variable {X : Cx} {fa fb : FE} {a b : Expr} {pos : Pos}
theorem xe_add (ha : TrE X a fa) (hb : TrE X b fb) : TrE X (.BinOp a .Add b pos) (f2 gAdd fa fb) := xe_op (op_add.or (op_add_str.or (op_cat.or op_catA))) y_add ha hb
theorem xe_mul (ha : TrE X a fa) (hb : TrE X b fb) : TrE X (.BinOp a .Mult b pos) (f2 gMul fa fb) := xe_op (op_mul.or (op_mulW.or op_rep)) y_mul ha hb
theorem xe_sub (ha : TrE X a fa) (hb : TrE X b fb) : TrE X (.BinOp a .Sub b pos) (f2 (gI0 fun i j => .int (i - j)) fa fb) := xe_op op_sub (y_I0 fun _ _ _ => .int _) ha hb
theorem xe_mod (ha : TrE X a fa) (hb : TrE X b fb) : TrE X (.BinOp a .Mod b pos) (f2 (gI (fun _ j => 0 < j) fun i j => .int (i % j)) fa fb) := xe_op op_mod (y_I fun _ _ _ => .int _) ha hb
theorem xe_pow (ha : TrE X a fa) (hb : TrE X b fb) : TrE X (.BinOp a .Pow b pos) (f2 (gI CPow fun i j => .int (i ^ j.toNat)) fa fb) := xe_op op_pow (y_I fun _ _ _ => .int _) ha hb
abbrev gLt : Op2 := gI0 fun i j => .bool (decide (i < j))
abbrev gGt : Op2 := gI0 fun i j => .bool (decide (j < i))
abbrev gGe : Op2 := gI0 fun i j => .bool (decide (j ≤ i))
theorem xt_lt (ha : TrE X a fa) (hb : TrE X b fb) : TrT X (.Compare a [.Lt] [b] pos) (fTest (f2 gLt fa fb)) := xt_cmp op_lt (y_I0 fun _ _ _ => .bl _) (nomark _) ha hb
theorem xt_gt (ha : TrE X a fa) (hb : TrE X b fb) : TrT X (.Compare a [.Gt] [b] pos) (fTest (f2 gGt fa fb)) := xt_cmp op_gt (y_I0 fun _ _ _ => .bl _) (nomark _) ha hb
theorem xt_ge (ha : TrE X a fa) (hb : TrE X b fb) : TrT X (.Compare a [.GtE] [b] pos) (fTest (f2 gGe fa fb)) := xt_cmp op_ge (y_I0 fun _ _ _ => .bl _) (nomark _) ha hb
end
abbrev eqD (d e : D) : Bool := PyData.eqv d e
def gEq : Op2 := fun d e k => (SeqAt.shaped d = true ∧ SeqAt.shaped e = true) ∧ k (.val (.bool (eqD d e)))
def gNe : Op2 := fun d e k => (SeqAt.shaped d = true ∧ SeqAt.shaped e = true) ∧ k (.val (.bool (!eqD d e)))
theorem y_eq {K : PySem.W.Frag} : Y2 K (rEqD K) gEq := fun G H x y d e s hx hy Q k o h =>
  ⟨d, e, (hx.all s).dp (SeqAt.canLay_of_shaped h.1.1), (hy.all s).dp (SeqAt.canLay_of_shaped h.1.2), h.1.1, h.1.2, o.val _ _ (.bl _) h.2⟩
theorem y_ne {K : PySem.W.Frag} : Y2 K (rNeD K) gNe := fun G H x y d e s hx hy Q k o h =>
  ⟨d, e, (hx.all s).dp (SeqAt.canLay_of_shaped h.1.1), (hy.all s).dp (SeqAt.canLay_of_shaped h.1.2), h.1.1, h.1.2, o.val _ _ (.bl _) h.2⟩
def flatD : D → Bool
  | .none => true
  | .bool _ => true
  | .int _ => true
  | .str _ => true
  | _ => false
def inD (d : D) (ds : List D) : Bool := ds.any fun z => eqD z d
def gIn (neg : Bool) : Op2 := fun d e k =>
  match e with
  | .list ds => ((flatD d && ds.all flatD) = true ∨ (SeqAt.shaped d && SeqAt.shaped (.list ds)) = true) ∧ k (.val (.bool (neg ^^ inD d ds)))
  | .tuple ds => (flatD d && ds.all flatD) = true ∧ k (.val (.bool (neg ^^ inD d ds)))
  | .str z => match d with
    | .str y => ∃ c, y = ⟨#[c]⟩ ∧ k (.val (.bool (neg ^^ decide (c ∈ z.cps.toList))))
    | _ => False
  | _ => False
section
variable {K : PySem.W.Frag} {G H : Hp}
theorem flat_v {v : V} {d : D} (h : Rp K G v d) (f : flatD d = true) : flatV v = true := by
  cases h <;> first | rfl | cases f
theorem flat_vs : ∀ {vs : List V} {ds : List D}, Rps K G vs ds → ds.all flatD = true → vs.all flatV = true
  | _, _, .nil, _ => rfl
  | _, _, .cons h a, f => by
    simp only [List.all_cons, Bool.and_eq_true] at f
    rw [List.all_cons, Bool.and_eq_true]
    exact ⟨flat_v h f.1, flat_vs a f.2⟩
theorem eq_v {v w : V} {d e : D} (h : Rp K G v d) (h' : Rp K G w e) (f : flatD d = true) (f' : flatD e = true) : eqV v w = eqD d e := by
  cases h <;> first
    | (cases f; done)
    | (cases h' <;> first | (cases f'; done) | (simp only [eqV, eqD, PyData.eqv]))
theorem in_v {w : V} {e : D} (h' : Rp K G w e) (f' : flatD e = true) : ∀ {vs : List V} {ds : List D}, Rps K G vs ds → ds.all flatD = true → inV w vs = inD e ds
  | _, _, .nil, _ => rfl
  | _, _, .cons h a, f => by
    simp only [List.all_cons, Bool.and_eq_true] at f
    have ih := in_v h' f' a f.2
    unfold inV inD at ih ⊢
    rw [List.any_cons, List.any_cons, ih, eq_v h h' f.1 f']
theorem Vw.flat {v : V} {d : D} (h : Vw K G H v d) (f : flatD d = true) : Rp K G v d := by
  cases h with
  | rp h => exact h
  | own h => cases d <;> first | exact h.elim | cases f
theorem y_in {neg : Bool} : Y2 K (fun x y H Q => rIn K neg x y H Q ∨ (∃ d ds, Dp K H x d ∧ Dp K H y (.list ds) ∧ SeqAt.shaped d = true ∧ SeqAt.shaped (.list ds) = true ∧ Q (.bl (neg ^^ ds.any fun z => PyData.eqv z d)) H) ∨
    ∃ (c : Nat) (z : Str), x = .str ⟨#[c]⟩ ∧ y = .str z ∧ Q (.bl (neg ^^ decide (c ∈ z.cps.toList))) H) (gIn neg) := fun G H x y d e s hx hy Q k o h => by
  have ng : ∀ b : Bool, (if neg = true then !b else b) = (neg ^^ b) := fun b => by cases neg <;> cases b <;> rfl
  cases e with
  | list ds =>
    obtain ⟨c | c, h⟩ := h
    · rw [Bool.and_eq_true] at c
      obtain ⟨p, xs, rfl, e1, r1⟩ := hy.lsts s
      refine .inl ⟨p, xs, rfl, .inl (.inl (.inl e1)), flat_v (hx.flat c.1) c.1, flat_vs r1 c.2, ?_⟩
      rw [ng, in_v (hx.flat c.1) c.1 r1 c.2]
      exact o.val _ _ (.bl _) h
    · rw [Bool.and_eq_true] at c
      exact .inr (.inl ⟨d, ds, (hx.all s).dp (SeqAt.canLay_of_shaped c.1), (hy.all s).dp (SeqAt.canLay_of_shaped c.2), c.1, c.2, o.val _ _ (.bl _) h⟩)
  | tuple ds =>
    obtain ⟨c, h⟩ := h
    rw [Bool.and_eq_true] at c
    obtain ⟨p, xs, rfl, e1, r1⟩ := hy.tups s
    refine .inl ⟨p, xs, rfl, .inr e1, flat_v (hx.flat c.1) c.1, flat_vs r1 c.2, ?_⟩
    rw [ng, in_v (hx.flat c.1) c.1 r1 c.2]
    exact o.val _ _ (.bl _) h
  | str z =>
    cases d with
    | str y' =>
      obtain ⟨c, rfl, h⟩ := h
      exact .inr (.inr ⟨c, z, hx.strs, hy.strs, o.val _ _ (.bl _) h⟩)
    | _ => exact h.elim
  | _ => exact h.elim
end
section
variable {X : Cx} {fa fb : FE} {a b : Expr} {pos : Pos} {n : Nat}
theorem xe_eq (hr : Room n X.A) (ha : TrE X a fa) (hb : TrE X b fb) : TrE X (.Compare a [.Eq] [b] pos) (f2 gEq fa fb) := xe_cmp (op_eqD hr.units) y_eq (nomark _) ha hb
theorem xt_eq (hr : Room n X.A) (ha : TrE X a fa) (hb : TrE X b fb) : TrT X (.Compare a [.Eq] [b] pos) (fTest (f2 gEq fa fb)) := xt_cmp (op_eqD hr.units) y_eq (nomark _) ha hb
theorem xt_ne (hr : Room n X.A) (ha : TrE X a fa) (hb : TrE X b fb) : TrT X (.Compare a [.NotEq] [b] pos) (fTest (f2 gNe fa fb)) := xt_cmp (op_neD hr.units) y_ne (nomark _) ha hb
theorem ro_in (hr : Room n X.A) : OpR X (compareOp .In) (fun x y H Q => rIn X.K false x y H Q ∨ (∃ d ds, Dp X.K H x d ∧ Dp X.K H y (.list ds) ∧ SeqAt.shaped d = true ∧ SeqAt.shaped (.list ds) = true ∧ Q (.bl (false ^^ ds.any fun z => PyData.eqv z d)) H) ∨
    ∃ (c : Nat) (z : Str), x = .str ⟨#[c]⟩ ∧ y = .str z ∧ Q (.bl (false ^^ decide (c ∈ z.cps.toList))) H) := by
  have h1 := op_inD (X := X) (by have := hr.un; omega)
  have h2 := op_in_sign (X := X)
  refine op_in_seq.or (OpR.or (fun pins s σ H x y v u Q I rx ry h => ?_) fun pins s σ H x y v u Q I rx ry h => ?_)
  · refine h1 pins s σ H x y v u Q I rx ry ?_
    obtain ⟨d, ds, a1, a2, a3, a4, q⟩ := h
    rw [Bool.false_xor] at q
    exact ⟨d, ds, a1, a2, a3, a4, q⟩
  · refine h2 pins s σ H x y v u Q I rx ry ?_
    obtain ⟨c, z, a1, a2, q⟩ := h
    rw [Bool.false_xor] at q
    exact ⟨c, z, a1, a2, q⟩
theorem ro_notIn (hr : Room n X.A) : OpR X (compareOp .NotIn) (fun x y H Q => rIn X.K true x y H Q ∨ (∃ d ds, Dp X.K H x d ∧ Dp X.K H y (.list ds) ∧ SeqAt.shaped d = true ∧ SeqAt.shaped (.list ds) = true ∧ Q (.bl (true ^^ ds.any fun z => PyData.eqv z d)) H) ∨
    ∃ (c : Nat) (z : Str), x = .str ⟨#[c]⟩ ∧ y = .str z ∧ Q (.bl (true ^^ decide (c ∈ z.cps.toList))) H) := by
  have h1 := op_notInD (X := X) (by have := hr.un; omega)
  have h2 := op_notIn_sign (X := X)
  refine op_notIn_seq.or (OpR.or (fun pins s σ H x y v u Q I rx ry h => ?_) fun pins s σ H x y v u Q I rx ry h => ?_)
  · refine h1 pins s σ H x y v u Q I rx ry ?_
    obtain ⟨d, ds, a1, a2, a3, a4, q⟩ := h
    rw [Bool.true_xor] at q
    exact ⟨d, ds, a1, a2, a3, a4, q⟩
  · refine h2 pins s σ H x y v u Q I rx ry ?_
    obtain ⟨c, z, a1, a2, q⟩ := h
    rw [Bool.true_xor] at q
    exact ⟨c, z, a1, a2, q⟩
theorem xe_in (hr : Room n X.A) (hm : behindInMarks .In b = false) (ha : TrE X a fa) (hb : TrE X b fb) : TrE X (.Compare a [.In] [b] pos) (f2 (gIn false) fa fb) := xe_cmp (ro_in hr) y_in hm ha hb
theorem xt_in (hr : Room n X.A) (hm : behindInMarks .In b = false) (ha : TrE X a fa) (hb : TrE X b fb) : TrT X (.Compare a [.In] [b] pos) (fTest (f2 (gIn false) fa fb)) := xt_cmp (ro_in hr) y_in hm ha hb
theorem xt_notIn (hr : Room n X.A) (hm : behindInMarks .NotIn b = false) (ha : TrE X a fa) (hb : TrE X b fb) : TrT X (.Compare a [.NotIn] [b] pos) (fTest (f2 (gIn true) fa fb)) := xt_cmp (ro_notIn hr) y_in hm ha hb
def isNone : D → Bool
  | .none => true
  | _ => false
def gIsN (neg : Bool) : Op2 := fun d e k =>
  match e with
  | .none => k (.val (.bool (neg ^^ isNone d)))
  | _ => False
theorem y_isN {K : PySem.W.Frag} {neg : Bool} : Y2 K (fun x y H Q => y = .non ∧ Q (.bl (neg ^^ decide (x = .non))) H) (gIsN neg) := fun G H x y d e s hx hy Q k o h => by
  cases e with
  | none =>
    refine ⟨hy.nons, ?_⟩
    have e1 : decide (x = V.non) = isNone d := by
      cases d with
      | none => rw [hx.nons]; rfl
      | bool b => rw [hx.bls]; rfl
      | int b => rw [hx.ints]; rfl
      | str b => rw [hx.strs]; rfl
      | list b => obtain ⟨p, _, rfl, _⟩ := hx.lsts s; rfl
      | tuple b => obtain ⟨p, _, rfl, _⟩ := hx.tups s; rfl
      | dict b => obtain ⟨p, _, rfl, _⟩ := hx.dcts s; rfl
    rw [e1]
    exact o.val _ _ (.bl _) h
  | _ => exact h.elim
theorem ro_is : OpR X (compareOp .Is) (fun x y H Q => y = .non ∧ Q (.bl (false ^^ decide (x = .non))) H) := fun pins s σ H x y v u Q I rx ry h => by
  refine op_isN pins s σ H x y v u Q I rx ry ?_
  obtain ⟨h1, h2⟩ := h
  rw [Bool.false_xor] at h2
  exact ⟨h1, h2⟩
theorem ro_isNot : OpR X (compareOp .IsNot) (fun x y H Q => y = .non ∧ Q (.bl (true ^^ decide (x = .non))) H) := fun pins s σ H x y v u Q I rx ry h => by
  refine op_notN pins s σ H x y v u Q I rx ry ?_
  obtain ⟨h1, h2⟩ := h
  rw [Bool.true_xor] at h2
  exact ⟨h1, h2⟩
theorem xt_is (ha : TrE X a fa) (hb : TrE X b fb) : TrT X (.Compare a [.Is] [b] pos) (fTest (f2 (gIsN false) fa fb)) := xt_cmp ro_is y_isN (nomark _) ha hb
theorem xt_isNot (ha : TrE X a fa) (hb : TrE X b fb) : TrT X (.Compare a [.IsNot] [b] pos) (fTest (f2 (gIsN true) fa fb)) := xt_cmp ro_isNot y_isN (nomark _) ha hb
end
end Tr
set_option Elab.async false
set_option linter.all false
set_option maxRecDepth 100000
namespace Tr
open PySem PySem.Spec PyProof.Rows L2 Evl Kc
abbrev OpN := List D → (Out → Prop) → Prop
def YN (K : PySem.W.Frag) (r : List V → Hp → VK → Prop) (g : OpN) : Prop := ∀ G H vs ds, Ex G H → Paired (Vw K G H) vs ds → Yields K G H (r vs) (g ds)
section
variable {X : Cx} {fr : FA} {e : Expr} {es : List Expr} {p pos : Pos} {n : Str} {id T : String}
theorem xe_callB {r : List V → Hp → VK → Prop} {g : OpN} (hc : CallR X (.builtin id) r) (y : YN X.K r g) (hg : Gl X n) (hm : X.mg n = none) (hv : bootBuiltins n = some (.builtin id)) (ha : TrA X (e :: es) fr) (hn : n ≠ "__name__" := by decide) (hdb : (n == ("__debug__" : Str)) = false := by decide)
    (he : starEach (e :: es) X.env = (false, eval e X.env) :: starEach es X.env := by rfl) (hpl : (backTo pos (starEach es X.env)).any (·.1) = false := by rfl) : TrE X (.Call (.Name n p) (e :: es) [] pos) (fB g fr) := .of (pe_callB hc hg hm hv pa_w hn hdb he hpl) (ref_cb y ha)
theorem xe_callTy {r : List V → Hp → VK → Prop} {g : OpN} (hc : CallR X (.type T) r) (y : YN X.K r g) (hg : Gl X n) (hm : X.mg n = none) (hv : bootBuiltins n = some (.type T)) (ha : TrA X (e :: es) fr) (hn : n ≠ "__name__" := by decide) (hdb : (n == ("__debug__" : Str)) = false := by decide)
    (he : starEach (e :: es) X.env = (false, eval e X.env) :: starEach es X.env := by rfl) (hpl : (backTo pos (starEach es X.env)).any (·.1) = false := by rfl) : TrE X (.Call (.Name n p) (e :: es) [] pos) (fB g fr) := .of (pe_callTy hc hg hm hv pa_w hn hdb he hpl) (ref_cb y ha)
end
def g1 (g : D → (Out → Prop) → Prop) : OpN := fun ds k =>
  match ds with
  | [d] => g d k
  | _ => False
def g2 (g : D → D → (Out → Prop) → Prop) : OpN := fun ds k =>
  match ds with
  | [d, e] => g d e k
  | _ => False
section
variable {K : PySem.W.Frag} {G H : Hp}
theorem g1_of {g : D → (Out → Prop) → Prop} {ds : List D} {k : Out → Prop} (h : g1 g ds k) : ∃ d, ds = [d] ∧ g d k := by
  match ds, h with
  | [d], h => exact ⟨d, rfl, h⟩
theorem g2_of {g : D → D → (Out → Prop) → Prop} {ds : List D} {k : Out → Prop} (h : g2 g ds k) : ∃ d e, ds = [d, e] ∧ g d e k := by
  match ds, h with
  | [d, e], h => exact ⟨d, e, rfl, h⟩
theorem pair1 {P : V → D → Prop} {vs : List V} {d : D} (h : Paired P vs [d]) : ∃ v, vs = [v] ∧ P v d := by
  cases h with
  | cons a b => cases b; exact ⟨_, rfl, a⟩
theorem pair2 {P : V → D → Prop} {vs : List V} {d e : D} (h : Paired P vs [d, e]) : ∃ v u, vs = [v, u] ∧ P v d ∧ P u e := by
  cases h with
  | cons a b =>
    obtain ⟨u, rfl, c⟩ := pair1 b
    exact ⟨_, u, rfl, a, c⟩
end
def gLen : D → (Out → Prop) → Prop := fun d k =>
  match d with
  | .str z => z.length ≤ sizeLine ∧ k (.val (.int z.length))
  | .list ds => k (.val (.int ds.length))
  | .tuple ds => k (.val (.int ds.length))
  | .dict ds => k (.val (.int ds.length))
  | _ => False
def gList : D → (Out → Prop) → Prop := fun d k =>
  match d with
  | .list ds => k (.newl ds)
  | .tuple ds => k (.newl ds)
  | .dict ds => k (.newl (ds.map (·.1)))
  | _ => False
def gTuple : D → (Out → Prop) → Prop := fun d k =>
  match d with
  | .list ds => k (.newt ds)
  | .tuple ds => k (.newt ds)
  | _ => False
def strsK : List D → (List Str → Prop) → Prop
  | [], k => k []
  | .str i :: ds, k => strsK ds fun ns => k (i :: ns)
  | _ :: _, _ => False
def boolsK : List D → (List Bool → Prop) → Prop
  | [], k => k []
  | .bool i :: ds, k => boolsK ds fun ns => k (i :: ns)
  | _ :: _, _ => False
section
variable {K : PySem.W.Frag} {G H : Hp}
theorem strs_of : ∀ {ds : List D} {k : List Str → Prop}, strsK ds k → ∃ ns, ds = ns.map PyData.str ∧ k ns
  | [], _, h => ⟨[], rfl, h⟩
  | d :: ds, k, h => by
    cases d <;> first | exact h.elim | skip
    obtain ⟨ns, rfl, hk⟩ := strs_of (k := fun ns => k (_ :: ns)) h
    exact ⟨_ :: ns, rfl, hk⟩
theorem bools_of : ∀ {ds : List D} {k : List Bool → Prop}, boolsK ds k → ∃ ns, ds = ns.map PyData.bool ∧ k ns
  | [], _, h => ⟨[], rfl, h⟩
  | d :: ds, k, h => by
    cases d <;> first | exact h.elim | skip
    obtain ⟨ns, rfl, hk⟩ := bools_of (k := fun ns => k (_ :: ns)) h
    exact ⟨_ :: ns, rfl, hk⟩
theorem bools_mk {k : List Bool → Prop} : ∀ {ns : List Bool}, k ns → boolsK (ns.map PyData.bool) k
  | [], h => h
  | n :: ns, h => bools_mk (k := fun ms => k (n :: ms)) (ns := ns) h
theorem Rps.ints : ∀ {xs : List V} {ns : List Int}, Rps K G xs (ns.map PyData.int) → xs = ns.map V.int
  | _, [], .nil => rfl
  | _, n :: ns, .cons (.int _) t => by rw [List.map_cons, Rps.ints t]
theorem Rps.strs : ∀ {xs : List V} {ns : List Str}, Rps K G xs (ns.map PyData.str) → xs = ns.map V.str
  | _, [], .nil => rfl
  | _, n :: ns, .cons (.str _) t => by rw [List.map_cons, Rps.strs t]
theorem Rps.bools : ∀ {xs : List V} {ns : List Bool}, Rps K G xs (ns.map PyData.bool) → xs = ns.map V.bl
  | _, [], .nil => rfl
  | _, n :: ns, .cons (.bl _) t => by rw [List.map_cons, Rps.bools t]
theorem Rpk.keys : ∀ {xs : List (Key × V)} {es : List (D × D)}, Rpk K G xs es → Rps K G (xs.map fun kv => kV kv.1) (es.map (·.1))
  | _, _, .nil => .nil
  | (k, v) :: _, _, .cons h t => .cons (match k with | .inl i => .int i | .inr x => .str x) (Rpk.keys t)
end
def gAll : D → (Out → Prop) → Prop := fun d k =>
  match d with
  | .list ds => boolsK ds fun ns => k (.val (.bool (ns.all id)))
  | _ => False
def gAbs : D → (Out → Prop) → Prop := fun d k =>
  match d with
  | .int i => k (.val (.int (if i < 0 then -i else i)))
  | _ => False
def gInt : D → (Out → Prop) → Prop := fun d k =>
  match d with
  | .int i => k (.val (.int i))
  | .bool b => k (.val (.int (if b then 1 else 0)))
  | _ => False
def gStr : D → (Out → Prop) → Prop := fun d k =>
  match d with
  | .int i => i.natAbs.log2 < 1920 ∧ k (.val (.str (toString i)))
  | _ => False
abbrev gMax2 : Op2 := gI0 fun i j => .int (if j > i then j else i)
abbrev gMin2 : Op2 := gI0 fun i j => .int (if j < i then j else i)
def gDivmod : Op2 := fun d e k =>
  match d, e with
  | .int i, .int j => CDiv i j ∧ k (.newt [.int (i / j), .int (i % j)])
  | _, _ => False
section
variable {X : Cx} {fr : FA} {e e2 : Expr} {p pos : Pos}
theorem CallR.or {f : Value} {r r' : List V → Hp → VK → Prop} (h : CallR X f r) (h' : CallR X f r') : CallR X f (fun xs H Q => r xs H Q ∨ r' xs H Q) := fun pins s σ H xs us Q I rx q => by
  rcases q with q | q
  · exact h pins s σ H xs us Q I rx q
  · exact h' pins s σ H xs us Q I rx q
theorem xe_len (hg : Gl X "len") (hm : X.mg "len" = none) (ha : TrA X [e] fr) (he : starEach [e] X.env = (false, eval e X.env) :: starEach [] X.env := by rfl) : TrE X (.Call (.Name "len" p) [e] [] pos) (fB (g1 gLen) fr) := by
  refine xe_callB (call_len_seq.or (call_len_str.or call_lenD)) (fun G H vs ds s pr Q k o h => ?_) hg hm PySem.boot_len ha (he := he)
  obtain ⟨d, rfl, h⟩ := g1_of h
  obtain ⟨v, rfl, hv⟩ := pair1 pr
  cases d <;> first | exact h.elim | skip
  · exact .inr (.inl ⟨_, by rw [hv.strs], h.1, o.val _ _ (.int _) h.2⟩)
  · obtain ⟨q, xs, rfl, e1, r1⟩ := hv.lsts s
    refine .inl ⟨q, xs, rfl, .inl (.inl (.inl e1)), ?_⟩
    rw [r1.len]
    exact o.val _ _ (.int _) h
  · obtain ⟨q, xs, rfl, e1, r1⟩ := hv.tups s
    refine .inl ⟨q, xs, rfl, .inr e1, ?_⟩
    rw [r1.len]
    exact o.val _ _ (.int _) h
  · obtain ⟨q, xs, rfl, e1, r1⟩ := hv.dcts s
    refine .inr (.inr ⟨q, xs, rfl, e1, ?_⟩)
    rw [r1.len]
    exact o.val _ _ (.int _) h
theorem xe_list (hg : Gl X "list") (hm : X.mg "list" = none) (hc : X.calm = true) (ha : TrA X [e] fr) (he : starEach [e] X.env = (false, eval e X.env) :: starEach [] X.env := by rfl) : TrE X (.Call (.Name "list" p) [e] [] pos) (fB (g1 gList) fr) := by
  refine xe_callTy (call_list_of.or (call_listD hc)) (fun G H vs ds s pr Q k o h => ?_) hg hm (by decide +kernel) ha (he := he)
  obtain ⟨d, rfl, h⟩ := g1_of h
  obtain ⟨v, rfl, hv⟩ := pair1 pr
  cases d <;> first | exact h.elim | skip
  · obtain ⟨q, xs, rfl, e1, r1⟩ := hv.lsts s
    exact .inl ⟨q, xs, rfl, .inl (.inl (.inl e1)), fun l n => o.newl l _ _ n r1 h⟩
  · obtain ⟨q, xs, rfl, e1, r1⟩ := hv.tups s
    exact .inl ⟨q, xs, rfl, .inr e1, fun l n => o.newl l _ _ n r1 h⟩
  · obtain ⟨q, xs, rfl, e1, r1⟩ := hv.dcts s
    exact .inr ⟨q, xs, rfl, .inl e1, fun l n => o.newl l _ _ n r1.keys h⟩
theorem xe_tuple (hg : Gl X "tuple") (hm : X.mg "tuple" = none) (ha : TrA X [e] fr) (he : starEach [e] X.env = (false, eval e X.env) :: starEach [] X.env := by rfl) : TrE X (.Call (.Name "tuple" p) [e] [] pos) (fB (g1 gTuple) fr) := by
  refine xe_callTy call_tuple_of (fun G H vs ds s pr Q k o h => ?_) hg hm (by decide +kernel) ha (he := he)
  obtain ⟨d, rfl, h⟩ := g1_of h
  obtain ⟨v, rfl, hv⟩ := pair1 pr
  cases d <;> first | exact h.elim | skip
  · obtain ⟨q, xs, rfl, e1, r1⟩ := hv.lsts s
    exact ⟨q, xs, rfl, .inl ⟨.inl (.inl e1), fun l n => o.newt l _ _ n r1 h⟩⟩
  · obtain ⟨q, xs, e0, e1, r1⟩ := hv.tups s
    refine ⟨q, xs, by rw [e0], .inr ⟨e1, ?_⟩⟩
    rw [← e0]
    cases hv with
    | rp hv => exact o.same _ _ hv h
    | own hv => exact hv.elim
theorem y_list1 {K : PySem.W.Frag} {r : List V → Hp → VK → Prop} {g : List D → (Out → Prop) → Prop} (hy : ∀ G H p xs ds, H p = some (.lst xs) → Rps K G xs ds → Yields K G H (r [.ref p]) (g ds)) :
    YN K r (g1 fun d k => match d with | .list ds => g ds k | _ => False) := fun G H vs ds s pr Q k o h => by
  obtain ⟨d, rfl, h⟩ := g1_of h
  obtain ⟨v, rfl, hv⟩ := pair1 pr
  cases d <;> first | exact h.elim | skip
  obtain ⟨q, xs, rfl, e1, r1⟩ := hv.lsts s
  exact hy G H q xs _ e1 r1 Q k o h
theorem xe_all (hg : Gl X "all") (hm : X.mg "all" = none) (hc : X.calm = true) (ha : TrA X [e] fr) (he : starEach [e] X.env = (false, eval e X.env) :: starEach [] X.env := by rfl) : TrE X (.Call (.Name "all" p) [e] [] pos) (fB (g1 gAll) fr) := by
  refine xe_callB (cr_all hc) (y_list1 (g := fun ds k => boolsK ds fun ns => k (.val (.bool (ns.all id)))) fun G H q xs ds e1 r1 Q k o h => ?_) hg hm (by decide +kernel) ha (he := he)
  obtain ⟨ns, rfl, h'⟩ := bools_of h
  exact ⟨q, ns, rfl, .inl (.inl (by rw [← r1.bools]; exact e1)), o.val _ _ (.bl _) h'⟩
theorem y_ints2 {K : PySem.W.Frag} {r : List V → Hp → VK → Prop} {g : Op2} (hg : ∀ d e k, g d e k → ∃ i j, d = .int i ∧ e = .int j) (hy : ∀ G H i j, Yields K G H (r [.int i, .int j]) (g (.int i) (.int j))) : YN K r (g2 g) := fun G H vs ds s pr Q k o h => by
  obtain ⟨d, e, rfl, h⟩ := g2_of h
  obtain ⟨v, u, rfl, hv, hu⟩ := pair2 pr
  obtain ⟨i, j, rfl, rfl⟩ := hg _ _ _ h
  rw [hv.ints, hu.ints]
  exact hy G H i j Q k o h
theorem xe_max2 (hg : Gl X "max") (hm : X.mg "max" = none) (hc : X.calm = true) (ha : TrA X [e, e2] fr) (he : starEach [e, e2] X.env = (false, eval e X.env) :: starEach [e2] X.env := by rfl) (hpl : (backTo pos (starEach [e2] X.env)).any (·.1) = false := by rfl) :
    TrE X (.Call (.Name "max" p) [e, e2] [] pos) (fB (g2 gMax2) fr) := xe_callB (call_max2 hc) (y_ints2 (fun _ _ _ h => let ⟨i, j, a, b, _⟩ := gI0_of h; ⟨i, j, a, b⟩) fun G H i j Q k o h => ⟨i, j, rfl, o.val _ _ (.int _) h⟩) hg hm (by decide +kernel) ha (by decide) (by decide) he hpl
theorem xe_min2 (hg : Gl X "min") (hm : X.mg "min" = none) (hc : X.calm = true) (ha : TrA X [e, e2] fr) (he : starEach [e, e2] X.env = (false, eval e X.env) :: starEach [e2] X.env := by rfl) (hpl : (backTo pos (starEach [e2] X.env)).any (·.1) = false := by rfl) :
    TrE X (.Call (.Name "min" p) [e, e2] [] pos) (fB (g2 gMin2) fr) := xe_callB (call_min2 hc) (y_ints2 (fun _ _ _ h => let ⟨i, j, a, b, _⟩ := gI0_of h; ⟨i, j, a, b⟩) fun G H i j Q k o h => ⟨i, j, rfl, o.val _ _ (.int _) h⟩) hg hm (by decide +kernel) ha (by decide) (by decide) he hpl
theorem xe_divmod (hg : Gl X "divmod") (hm : X.mg "divmod" = none) (ha : TrA X [e, e2] fr) (he : starEach [e, e2] X.env = (false, eval e X.env) :: starEach [e2] X.env := by rfl) (hpl : (backTo pos (starEach [e2] X.env)).any (·.1) = false := by rfl) :
    TrE X (.Call (.Name "divmod" p) [e, e2] [] pos) (fB (g2 gDivmod) fr) := xe_callB call_divmod (y_ints2 (fun d e _ h => by cases d <;> cases e <;> first | exact h.elim | exact ⟨_, _, rfl, rfl⟩) fun G H i j Q k o h => ⟨i, j, rfl, h.1, fun q n => o.newt q _ _ n (.cons (.int _) (.cons (.int _) .nil)) h.2⟩) hg hm (by decide +kernel) ha (by decide) (by decide) he hpl
theorem xe_abs (hg : Gl X "abs") (hm : X.mg "abs" = none) (ha : TrA X [e] fr) (he : starEach [e] X.env = (false, eval e X.env) :: starEach [] X.env := by rfl) : TrE X (.Call (.Name "abs" p) [e] [] pos) (fB (g1 gAbs) fr) := by
  refine xe_callB call_abs (fun G H vs ds s pr Q k o h => ?_) hg hm (by decide +kernel) ha (he := he)
  obtain ⟨d, rfl, h⟩ := g1_of h
  obtain ⟨v, rfl, hv⟩ := pair1 pr
  cases d <;> first | exact h.elim | skip
  exact ⟨_, by rw [hv.ints], o.val _ _ (.int _) h⟩
theorem xe_toInt (hg : Gl X "int") (hm : X.mg "int" = none) (ha : TrA X [e] fr) (he : starEach [e] X.env = (false, eval e X.env) :: starEach [] X.env := by rfl) : TrE X (.Call (.Name "int" p) [e] [] pos) (fB (g1 gInt) fr) := by
  refine xe_callTy call_int1 (fun G H vs ds s pr Q k o h => ?_) hg hm (by decide +kernel) ha (he := he)
  obtain ⟨d, rfl, h⟩ := g1_of h
  obtain ⟨v, rfl, hv⟩ := pair1 pr
  cases d <;> first | exact h.elim | skip
  · exact .inr ⟨_, by rw [hv.bls], o.val _ _ (.int _) h⟩
  · exact .inl ⟨_, by rw [hv.ints], o.val _ _ (.int _) h⟩
theorem xe_toStr (hg : Gl X "str") (hm : X.mg "str" = none) (ha : TrA X [e] fr) (he : starEach [e] X.env = (false, eval e X.env) :: starEach [] X.env := by rfl) : TrE X (.Call (.Name "str" p) [e] [] pos) (fB (g1 gStr) fr) := by
  refine xe_callTy call_str_int (fun G H vs ds s pr Q k o h => ?_) hg hm (by decide +kernel) ha (he := he)
  obtain ⟨d, rfl, h⟩ := g1_of h
  obtain ⟨v, rfl, hv⟩ := pair1 pr
  cases d <;> first | exact h.elim | skip
  exact ⟨_, by rw [hv.ints], h.1, o.val _ _ (.str _) h.2⟩
end
def gNeg : D → (Out → Prop) → Prop := fun d k =>
  match d with
  | .int i => k (.val (.int (-i)))
  | _ => False
def gIx : Op2 := fun d e k =>
  match e with
  | .int i => match d with
    | .list ds => ∃ c, atI ds i = some c ∧ k (.val c)
    | .tuple ds => ∃ c, atI ds i = some c ∧ k (.val c)
    | .str z => z.length ≤ sizeLine ∧ ∃ c, atI z.cps.toList i = some c ∧ k (.val (.str ⟨#[c]⟩))
    | _ => False
  | _ => False
def cutD (ds : List D) (lo hi : Option Int) : List D := (ds.drop (HT.sIx ds.length 0 lo)).take (HT.sIx ds.length ds.length hi - HT.sIx ds.length 0 lo)
def gSl (lo hi : Option Int) : D → (Out → Prop) → Prop := fun d k =>
  match d with
  | .list ds => k (.newl (cutD ds lo hi))
  | .tuple ds => k (.newt (cutD ds lo hi))
  | .str z => z.length ≤ sizeLine ∧ k (.val (.str (cutS z lo hi)))
  | _ => False
section
variable {K : PySem.W.Frag} {G H : Hp}
theorem Rps.atI {xs : List V} {ds : List D} {i : Int} {c : D} (h : Rps K G xs ds) (e : L2.atI ds i = some c) : ∃ v, L2.atI xs i = some v ∧ Rp K G v c := by
  unfold L2.atI at e ⊢
  rw [h.len]
  cases z : ixN ds.length i with
  | none => rw [z] at e; cases e
  | some j =>
    rw [z] at e
    obtain ⟨v, h1, h2⟩ := h.get (i := j) e
    exact ⟨v, h1, h2⟩
theorem Rps.cut {xs : List V} {ds : List D} (lo hi : Option Int) (h : Rps K G xs ds) : Rps K G (cutV xs lo hi) (cutD ds lo hi) := by
  unfold cutV cutD
  rw [h.len]
  exact (h.drop _).take _
theorem y_ix : Y2 K (rIx K) gIx := fun G H x y d e s hx hy Q k o h => by
  cases e with
  | int i =>
    rw [hy.ints]
    cases d <;> first | exact h.elim | skip
    · obtain ⟨h0, c, h1, h2⟩ := h
      exact .inr (.inr ⟨_, i, c, hx.strs, rfl, h0, h1, o.val _ _ (.str _) h2⟩)
    · obtain ⟨c, h1, h2⟩ := h
      obtain ⟨p, xs, rfl, e1, r1⟩ := hx.lsts s
      obtain ⟨v, a1, a2⟩ := r1.atI h1
      exact .inl ⟨p, xs, i, v, rfl, rfl, .inl (.inl e1), a1, o.val _ _ a2 h2⟩
    · obtain ⟨c, h1, h2⟩ := h
      obtain ⟨p, xs, rfl, e1, r1⟩ := hx.tups s
      obtain ⟨v, a1, a2⟩ := r1.atI h1
      exact .inr (.inl ⟨p, xs, i, v, rfl, rfl, e1, a1, o.val _ _ a2 h2⟩)
  | _ => exact h.elim
theorem y_sl {lo hi : Option Int} {x : V} {d : D} (s : Ex G H) (hx : Vw K G H x d) : Yields K G H (fun H Q => rSlL K x lo hi H Q ∨ rSlA K x lo hi H Q ∨ rSlS x lo hi H Q) (gSl lo hi d) := fun Q k o h => by
  cases d <;> first | exact h.elim | skip
  · exact .inr (.inr ⟨_, hx.strs, h.1, o.val _ _ (.str _) h.2⟩)
  · obtain ⟨p, xs, rfl, e1, r1⟩ := hx.lsts s
    exact .inl ⟨p, xs, rfl, .inl (.inl e1), fun l n => o.newl l _ _ n (r1.cut lo hi) h⟩
  · rename_i ds
    obtain ⟨p, xs, e0, e1, r1⟩ := hx.tups s
    refine .inr (.inl ⟨p, xs, e0, e1, fun z => ?_, fun _ l n => o.newt l _ _ n (r1.cut lo hi) h⟩)
    rw [← e0]
    have : cutD ds lo hi = ds := by
      unfold cutD
      rw [← r1.len, z.1, z.2, List.drop_zero]
      exact List.take_of_length_le (by rw [r1.len]; exact Nat.le_refl _)
    have h : k (.newt (cutD ds lo hi)) := h
    rw [this] at h
    cases hx with
    | rp hx => exact o.same _ _ hx h
    | own hx => exact hx.elim
end
section
variable {X : Cx} {fa fb fc : FE} {a b c : Expr} {pos p2 : Pos}
theorem xe_neg (ha : TrE X a fa) (ho : UnR X (unaryOp .USub) (rU fun i => .int (-i))) : TrE X (.UnaryOp .USub a pos) (f1 gNeg fa) := xe_un ho (fun G H x d s hx Q k o h => by
  cases d <;> first | exact h.elim | skip
  exact ⟨_, hx.ints, o.val _ _ (.int _) h⟩) ha
theorem xe_at (hs : PlainIx b) (ha : TrE X a fa) (hb : TrE X b fb) : TrE X (.Subscript a b pos) (f2 gIx fa fb) := xe_ix ix_seq y_ix hs ha hb
abbrev FO := S → (Option Int → S → Prop) → KX → Prop
def oNone : FO := fun ρ k _ => k none ρ
def oSome (fb : FE) : FO := fun ρ k x => fb ρ (fun b ρ1 => vw ρ1 b fun d => isI d fun i => k (some i) ρ1) x
def fSl (fa : FE) (lo hi : FO) : FE := fun ρ k x => fa ρ (fun a ρ1 => fz a fun a' => lo ρ1 (fun l ρ2 => hi ρ2 (fun u ρ3 => vw ρ3 a' fun d => gSl l u d fun o => k o.av ρ3) x) x) x
def RefO (X : Cx) (t : TO) (f : FO) : Prop := ∀ (W : WX) (E : Ent) (ρ : S) (G : Hp) (σ : L2.St) (H : Hp) (Q : Option Int → Hp → Prop) (k : Option Int → S → Prop) (x : KX), TakesT X W E → Rel X.K E ρ G σ H → LkX X.K E x W →
  (∀ o ρ' G' H', Ex G G' → Rel X.K E ρ' G' σ H' → k o ρ' → Q o H') → f ρ k x → t σ H Q
def TrO (X : Cx) (e : Option Expr) (f : FO) : Prop := ∃ t, PO X e t ∧ RefO X t f
theorem xo_none : TrO X none oNone := ⟨_, po_none, fun W E ρ G σ H Q k x tk R lx lk h => lk none ρ G H (Ex.refl G) R h⟩
theorem xo_some (hb : TrE X b fb) : TrO X (some b) (oSome fb) := ⟨_, po_some pe_w, fun W E ρ G σ H Q k x tk R lx lk h => by
  refine hb W E ρ G σ H _ _ x tk R lx (fun a ρ1 G1 v H1 e1 R1 q1 h1 => ?_) h
  obtain ⟨d, vd, h1⟩ := q1.vw R1 h1
  obtain ⟨i, rfl, h1⟩ := isI_of h1
  exact ⟨i, vd.ints, lk (some i) ρ1 G1 H1 e1 R1 h1⟩⟩
theorem xe_slice {lo hi : Option Expr} {fl fh : FO} (ha : TrE X a fa) (hl : TrO X lo fl) (hh : TrO X hi fh) : TrE X (.Subscript a (.Slice lo hi none p2) pos) (fSl fa fl fh) := by
  obtain ⟨tl, pl, rl⟩ := hl
  obtain ⟨th, ph, rh⟩ := hh
  refine .of (pe_slice (sl_list.or (sl_tupA.or sl_str)) pe_w pl ph) fun W E ρ G σ H Q k x tk R lx lk h => ?_
  refine ha W E ρ G σ H _ _ x tk R lx (fun a ρ1 G1 v H1 e1 R1 q1 h1 => ?_) h
  obtain ⟨a', G1', no, e1', R1', q1', h1⟩ := q1.fz R1 h1
  refine rl W E ρ1 G1' σ H1 _ _ x tk R1' lx (fun l ρ2 G2 H2 e2 R2 h2 => ?_) h1
  refine rh W E ρ2 G2 σ H2 _ _ x tk R2 lx (fun u ρ3 G3 H3 e3 R3 h3 => ?_) h2
  have q3 := Res.stay (ρ' := ρ3) (H' := H3) no q1' (e2.trans e3)
  obtain ⟨d, vd, h3⟩ := q3.vw R3 h3
  exact y_sl R3.sub vd Q _ (outLk R3 (lk.up ((e1.trans e1').trans (e2.trans e3)))) h3
end
end Tr
set_option Elab.async false
set_option linter.all false
set_option maxRecDepth 100000
namespace Tr
open PySem PySem.Spec PyProof.Rows L2 Evl Kc
structure EndsT where
  nx : S → Prop
  rt : AV → S → Prop
  bk : S → Prop := fun _ => False
  ct : S → Prop := fun _ => False
abbrev FS := S → EndsT → KX → Prop
structure LkS (K : PySem.W.Frag) (E : Ent) (G : Hp) (N : EndsT) (M : Ends) : Prop where
  nx : ∀ ρ' G' σ' H', Ex G G' → Rel K E ρ' G' σ' H' → N.nx ρ' → M.nx σ' H'
  rt : ∀ a ρ' G' σ' v H', Ex G G' → Rel K E ρ' G' σ' H' → Res K E ρ' G' σ' H' a v → N.rt a ρ' → M.rt v H'
  bk : ∀ ρ' G' σ' H', Ex G G' → Rel K E ρ' G' σ' H' → N.bk ρ' → M.bk σ' H'
  ct : ∀ ρ' G' σ' H', Ex G G' → Rel K E ρ' G' σ' H' → N.ct ρ' → M.ct σ' H'
theorem LkS.up {K : PySem.W.Frag} {E : Ent} {G G1 : Hp} {N : EndsT} {M : Ends} (l : LkS K E G N M) (e : Ex G G1) : LkS K E G1 N M :=
  ⟨fun ρ' G' σ' H' e1 => l.nx ρ' G' σ' H' (e.trans e1), fun a ρ' G' σ' v H' e1 => l.rt a ρ' G' σ' v H' (e.trans e1), fun ρ' G' σ' H' e1 => l.bk ρ' G' σ' H' (e.trans e1), fun ρ' G' σ' H' e1 => l.ct ρ' G' σ' H' (e.trans e1)⟩
def RefS (X : Cx) (t : TS) (f : FS) : Prop := ∀ (W : WX) (E : Ent) (ρ : S) (G : Hp) (σ : L2.St) (H : Hp) (M : Ends) (N : EndsT) (x : KX), TakesT X W E → Rel X.K E ρ G σ H → LkX X.K E x W → LkS X.K E G N M → f ρ N x → t M σ H
def wS (X : Cx) (st : Stmt) : TS := fun M σ H => ∀ (pins : List (Addr × Obj)) (s : Shared), Inv X pins σ H s → wpAny (model X.prog X.w) X.A (exec st X.env) (SP X pins M) X.xe s
def wB (X : Cx) (st : List Stmt) : TS := fun M σ H => ∀ (pins : List (Addr × Obj)) (s : Shared), Inv X pins σ H s → wpAny (model X.prog X.w) X.A (execs st X.env) (SP X pins M) X.xe s
theorem ps_w {X : Cx} {st : Stmt} : PS X st (wS X st) := ⟨fun pins s _ _ _ I h => h pins s I⟩
theorem pb_w {X : Cx} {st : List Stmt} : PSs X st (wB X st) := ⟨fun pins s _ _ _ I h => h pins s I⟩
def TrS (X : Cx) (st : Stmt) (f : FS) : Prop := RefS X (wS X st) f
def TrB (X : Cx) (st : List Stmt) (f : FS) : Prop := RefS X (wB X st) f
theorem TrS.of {X : Cx} {e : Stmt} {t : TS} {f : FS} (h : PS X e t) (r : RefS X t f) : TrS X e f := fun W E ρ G σ H M N x tk R lx lk hf pins s I => h.run pins s σ H M I (r W E ρ G σ H M N x tk R lx lk hf)
theorem TrB.of {X : Cx} {e : List Stmt} {t : TS} {f : FS} (h : PSs X e t) (r : RefS X t f) : TrB X e f := fun W E ρ G σ H M N x tk R lx lk hf pins s I => h.run pins s σ H M I (r W E ρ G σ H M N x tk R lx lk hf)
section
variable {X : Cx} {st : Stmt} {rest bd el : List Stmt} {fs fr fu : FS} {fe : FE} {ft : FT} {e : Expr} {pos : Pos}
def sNil : FS := fun ρ N _ => N.nx ρ
def sCons (fs fr : FS) : FS := fun ρ N x => fs ρ { N with nx := fun ρ' => fr ρ' N x } x
theorem tb_nil : TrB X [] sNil := .of pss_nil fun W E ρ G σ H M N x tk R lx lk h => lk.nx ρ G σ H (Ex.refl G) R h
theorem tb_one (h : TrS X st fs) : TrB X [st] fs := .of (pss_one ps_w) h
theorem tb_cons (h : TrS X st fs) (hr : TrB X rest fr) : TrB X (st :: rest) (sCons fs fr) := .of (pss_cons ps_w pb_w) fun W E ρ G σ H M N x tk R lx lk hf =>
  h W E ρ G σ H _ { N with nx := fun ρ' => fr ρ' N x } x tk R lx ⟨fun ρ' G' σ' H' e1 R1 h1 => hr W E ρ' G' σ' H' M N x tk R1 lx (lk.up e1) h1, lk.rt, lk.bk, lk.ct⟩ hf
def sExpr (fe : FE) : FS := fun ρ N x => fe ρ (fun _ ρ1 => N.nx ρ1) x
theorem ts_expr (h : TrE X e fe) (hs : swapsWith e none pos.line X.env = pure false := by rfl) : TrS X (.Expr e pos) (sExpr fe) := .of (ps_expr pe_w hs) fun W E ρ G σ H M N x tk R lx lk hf =>
  h W E ρ G σ H _ _ x tk R lx (fun a ρ1 G1 v H1 e1 R1 _ h1 => lk.nx ρ1 G1 σ H1 e1 R1 h1) hf
def sRet (fe : FE) : FS := fun ρ N x => fe ρ (fun a ρ1 => N.rt a ρ1) x
theorem ts_ret (h : TrE X e fe) : TrS X (.Return (some e) pos) (sRet fe) := .of (ps_ret pe_w) fun W E ρ G σ H M N x tk R lx lk hf =>
  h W E ρ G σ H _ _ x tk R lx (fun a ρ1 G1 v H1 e1 R1 q1 h1 => lk.rt a ρ1 G1 σ v H1 e1 R1 q1 h1) hf
def sIf (ft : FT) (fs fr : FS) : FS := fun ρ N x => ft ρ (fun b ρ1 => if b = true then fs ρ1 N x else fr ρ1 N x) x
theorem ts_if (h : TrT X e ft) (ha : TrB X bd fs) (hb : TrB X el fr) : TrS X (.If e bd el pos) (sIf ft fs fr) := .of (ps_if pt_w pb_w pb_w) fun W E ρ G σ H M N x tk R lx lk hf => by
  refine h W E ρ G σ H _ _ x tk R lx (fun b ρ1 G1 H1 e1 R1 h1 => ?_) hf
  cases b with
  | true => exact ha W E ρ1 G1 σ H1 M N x tk R1 lx (lk.up e1) h1
  | false => exact hb W E ρ1 G1 σ H1 M N x tk R1 lx (lk.up e1) h1
def putK (i : Nat) (a : AV) (ρ : S) (k : S → Prop) : Prop :=
  match ρ[i]? with
  | some (some (.own true _)) => False
  | some (some (.pot true)) => False
  | _ => match a with
    | .at _ => False
    | .own false d => k (ρ.set i (some (.own false d)))
    | .pot false => k (ρ.set i (some (.pot false)))
    | .own true _ => False
    | .pot true => False
    | .dat d => k (ρ.set i (some (.dat d)))
    | .obj C fs => k (ρ.set i (some (.obj C fs)))
    | .raw v => k (ρ.set i (some (.raw v)))
    | .scr ns => k (ρ.set i (some (.scr ns)))
    | .exn a C dd fs => k (ρ.set i (some (.exn a C dd fs)))
    | .clo f Gc => k (ρ.set i (some (.clo f Gc)))
theorem putK_of {i : Nat} {a : AV} {ρ : S} {k : S → Prop} (h : putK i a ρ k) : k (ρ.set i (some a)) ∧ a.isPar = false ∧ ∀ j, a ≠ .at j := by
  unfold putK at h
  split at h
  · exact h.elim
  · exact h.elim
  · cases a with
    | own b d => cases b <;> first | exact h.elim | exact ⟨h, rfl, nofun⟩
    | pot b => cases b <;> first | exact h.elim | exact ⟨h, rfl, nofun⟩
    | «at» j => exact h.elim
    | _ => exact ⟨h, rfl, nofun⟩
theorem Rel.putRes {K : PySem.W.Frag} {E : Ent} {ρ : S} {G H : Hp} {σ : L2.St} {a : AV} {v : V} {i : Nat} (r : Rel K E ρ G σ H) (q : Res K E ρ G σ H a v) (np : a.isPar = false) (na : ∀ j, a ≠ .at j) : Rel K E (ρ.set i (some a)) G (σ.set i (some v)) H := by
  rcases q with ⟨j, e, _⟩ | ⟨no, hh⟩ | ⟨yo, _, p, rfl, gp, st, h0, ls⟩
  · exact absurd e (na j)
  · exact r.put hh np fun z => by rw [no] at z; cases z
  · exact r.put (Hold.of_own yo gp st) np fun _ q e => by cases e; exact ⟨h0, ls⟩
def sSet (i : Nat) (fe : FE) : FS := fun ρ N x => fe ρ (fun a ρ1 => putK i a ρ1 N.nx) x
theorem ref_set {i : Nat} {te : TE} (h : RefE X te fe) : RefS X (tAsg te (gName i)) (sSet i fe) := fun W E ρ G σ H M N x tk R lx lk hf =>
  h W E ρ G σ H _ _ x tk R lx (fun a ρ1 G1 v H1 e1 R1 q1 h1 => by
    obtain ⟨h1, np, na⟩ := putK_of h1
    exact lk.nx _ G1 _ H1 e1 (R1.putRes q1 np na) h1) hf
theorem ts_set (i : Nat) {n : Str} {pos' : Pos} (h : TrE X e fe) (hN : X.N.Nodup) (hi : X.N[i]? = some n) (hx : Loc X.env.scope n) (hs : swapsWith e (some (.Name n pos')) pos.line X.env = pure false := by rfl) (hf : X.fn n = true ∨ X.env.scope.names.lookup n = some .local := by first | exact .inl rfl | exact .inr rfl | assumption) :
    TrS X (.Assign [.Name n pos'] e pos) (sSet i fe) := .of (ps_set hN hi hx pe_w hs hf) (ref_set h)
end
abbrev FG := D → S → (S → Prop) → Prop
/-- is: the slots that are set -/
def RefG (X : Cx) (t : TG) (is : List Nat) (g : FG) : Prop := ∀ (E : Ent) (ρ : S) (G : Hp) (σ : L2.St) (H : Hp) (v : V) (d : D) (Q : L2.St → Hp → Prop) (k : S → Prop), Rel X.K E ρ G σ H → Rp X.K G v d →
  (∀ ρ' σ', Rel X.K E ρ' G σ' H → σ'.length = σ.length → (∀ j, j ∉ is → σ'[j]? = σ[j]?) → (∀ j, j ∉ is → ρ'[j]? = ρ[j]?) → k ρ' → Q σ' H) → g d ρ k → t v σ H Q
def RefGs (X : Cx) (t : TGs) (is : List Nat) (g : List D → S → (S → Prop) → Prop) : Prop := ∀ (E : Ent) (ρ : S) (G : Hp) (σ : L2.St) (H : Hp) (v : List V) (d : List D) (Q : L2.St → Hp → Prop) (k : S → Prop), Rel X.K E ρ G σ H → Rps X.K G v d →
  (∀ ρ' σ', Rel X.K E ρ' G σ' H → σ'.length = σ.length → (∀ j, j ∉ is → σ'[j]? = σ[j]?) → (∀ j, j ∉ is → ρ'[j]? = ρ[j]?) → k ρ' → Q σ' H) → g d ρ k → t v σ H Q
def TrG (X : Cx) (e : Expr) (is : List Nat) (g : FG) : Prop := ∃ t, PG X e t ∧ RefG X t is g
def TrGs (X : Cx) (e : List Expr) (n : Nat) (is : List Nat) (g : List D → S → (S → Prop) → Prop) : Prop := e.length = n ∧ ∃ t, PGs X e t ∧ RefGs X t is g
def gN (i : Nat) : FG := fun d ρ k => putK i (.dat d) ρ k
def gsNil : List D → S → (S → Prop) → Prop := fun ds ρ k =>
  match ds with
  | [] => k ρ
  | _ => False
def gsCons (g : FG) (gs : List D → S → (S → Prop) → Prop) : List D → S → (S → Prop) → Prop := fun ds ρ k =>
  match ds with
  | d :: ds => g d ρ fun ρ1 => gs ds ρ1 k
  | _ => False
def gT (n : Nat) (gs : List D → S → (S → Prop) → Prop) : FG := fun d ρ k =>
  match d with
  | .tuple ds => ds.length = n ∧ gs ds ρ k
  | _ => False
section
variable {X : Cx} {e : Expr} {es : List Expr} {pos : Pos} {is js : List Nat} {g : FG} {gs : List D → S → (S → Prop) → Prop} {n : Nat}
theorem ref_gn {i : Nat} : RefG X (gName i) [i] (gN i) := fun E ρ G σ H v d Q k R rp lk h => by
  obtain ⟨h1, np, na⟩ := putK_of h
  refine lk _ _ (R.putRes (.dat rp) np na) (by rw [List.length_set]) (fun j hj => ?_) (fun j hj => ?_) h1
  · exact List.getElem?_set_ne fun z => hj (by rw [z]; exact List.mem_singleton_self _)
  · exact List.getElem?_set_ne fun z => hj (by rw [z]; exact List.mem_singleton_self _)
theorem tg_name (i : Nat) {x : Str} (hN : X.N.Nodup) (hi : X.N[i]? = some x) (hx : Loc X.env.scope x) (hf : X.fn x = true ∨ X.env.scope.names.lookup x = some .local := by first | exact .inl rfl | exact .inr rfl | assumption) : TrG X (.Name x pos) [i] (gN i) := ⟨_, pg_name hN hi hx hf, ref_gn⟩
theorem tgs_nil : TrGs X [] 0 [] gsNil := ⟨rfl, _, pgs_nil, fun E ρ G σ H v d Q k R rp lk h => by
  cases rp with
  | nil => exact ⟨rfl, lk ρ σ R rfl (fun _ _ => rfl) (fun _ _ => rfl) h⟩
  | cons _ _ => exact h.elim⟩
theorem tgs_cons (h1 : TrG X e is g) (h2 : TrGs X es n js gs) (hs : (assignEach (e :: es) X.env).map (·.2) = assign e X.env :: (assignEach es X.env).map (·.2) := by rfl) : TrGs X (e :: es) (n + 1) (is ++ js) (gsCons g gs) := by
  obtain ⟨t, p, r⟩ := h1
  obtain ⟨hl, u, q, s⟩ := h2
  refine ⟨by rw [List.length_cons, hl], _, pgs_cons p q hs, fun E ρ G σ H v d Q k R rp lk h => ?_⟩
  cases rp with
  | nil => exact h.elim
  | cons a b =>
    refine ⟨_, _, rfl, r E ρ G σ H _ _ _ _ R a (fun ρ1 σ1 R1 l1 s1 t1 h1 => ?_) h⟩
    refine s E ρ1 G σ1 H _ _ Q k R1 b (fun ρ2 σ2 R2 l2 s2 t2 h2 => ?_) h1
    refine lk ρ2 σ2 R2 (l2.trans l1) (fun j hj => ?_) (fun j hj => ?_) h2
    · rw [List.mem_append, not_or] at hj
      exact (s2 j hj.2).trans (s1 j hj.1)
    · rw [List.mem_append, not_or] at hj
      exact (t2 j hj.2).trans (t1 j hj.1)
theorem tg_tup {k : Nat} (h : TrGs X es n is gs) (hc : X.calm = true) (hn : (assignEach es X.env).length = n := by rfl) (hst : (assignEach es X.env).findIdx? (·.1) = none := by rfl) : TrG X (.Tuple es k pos) is (gT n gs) := by
  obtain ⟨hl, t, p, r⟩ := h
  refine ⟨_, pg_tup hc p hn hst, fun E ρ G σ H v d Q k R rp lk h => ?_⟩
  cases rp <;> first | exact h.elim | skip
  rename_i h1 h2
  exact ⟨_, _, rfl, ex_t R.sub h1, by rw [h2.len]; exact h.1, r E ρ G σ H _ _ Q k R h2 lk h.2⟩
/-- target = value, taken apart -/
def sAsg (fe : FE) (g : FG) : FS := fun ρ N x => fe ρ (fun a ρ1 => fz a fun a' => match a' with | .dat d => g d ρ1 N.nx | _ => False) x
theorem ts_asg {fe : FE} {tg : Expr} (h : TrE X e fe) (hg : TrG X tg is g) (hs : swapsWithSole [tg] e pos.line X.env = pure false := by rfl) (hw : swappedStores [tg] e X.env = pure none := by rfl)
    (h1 : (assignEach [tg] X.env).map (·.2) = [assign tg X.env] := by rfl) : TrS X (.Assign [tg] e pos) (sAsg fe g) := by
  obtain ⟨t, p, r⟩ := hg
  refine .of (ps_asg pe_w p hs hw h1) fun W E ρ G σ H M N x tk R lx lk hf => ?_
  refine h W E ρ G σ H _ _ x tk R lx (fun a ρ1 G1 v H1 e1 R1 q1 h1 => ?_) hf
  obtain ⟨a', G1', no, e1', R1', q1', h1⟩ := q1.fz R1 h1
  cases a' <;> first | exact h1.elim | skip
  rcases q1' with ⟨i, z, _⟩ | ⟨_, hh⟩ | ⟨z, _⟩
  · cases z
  · exact r E ρ1 G1' σ H1 v _ _ _ R1' hh (fun ρ2 σ2 R2 _ _ _ h2 => lk.nx ρ2 G1' σ2 H1 (e1.trans e1') R2 h2) h1
  · cases z
end
end Tr
set_option Elab.async false
set_option linter.all false
set_option maxRecDepth 100000
namespace Tr
open PySem PySem.Spec PyProof.Rows L2 Evl Kc Kz
structure JOk (K : PySem.W.Frag) (G : Hp) (J : It) (ds : List D) : Prop where
  go : ∀ i E ρ' G' σ' H', i < ds.length → Ex G G' → Rel K E ρ' G' σ' H' → J.go i H'
  yld : ∀ i d E ρ' G' σ' H' x H2, ds[i]? = some d → Ex G G' → Rel K E ρ' G' σ' H' → J.yld i H' x H2 → ∃ G2, Ex G' G2 ∧ Rel K E ρ' G2 σ' H2 ∧ Rp K G2 x d
  stop : ∀ E ρ' G' σ' H', Ex G G' → Rel K E ρ' G' σ' H' → J.stop ds.length H'
abbrev FI := S → (List D → S → Prop) → KX → Prop
def RefI (X : Cx) (wi : TI) (f : FI) : Prop := ∀ (W : WX) (E : Ent) (ρ : S) (G : Hp) (σ : L2.St) (H : Hp) (R : It → Hp → Prop) (k : List D → S → Prop) (x : KX), TakesT X W E → Rel X.K E ρ G σ H → LkX X.K E x W →
  (∀ ds ρ' G' J H', Ex G G' → Rel X.K E ρ' G' σ H' → JOk X.K G' J ds → k ds ρ' → R J H') → f ρ k x → wi σ H R
def TrI (X : Cx) (tg iter : Expr) (f : FI) : Prop := ∃ wi, PI X tg iter wi ∧ RefI X wi f
section
variable {K : PySem.W.Frag} {G H : Hp}
theorem JOk.of {J : It} {ds : List D} {n : Nat} {P : Hp → Prop} {Y : Nat → Hp → V → Hp → Prop} (w : Walk J n P Y) (hn : n = ds.length) (hP : ∀ E ρ' G' σ' H', Ex G G' → Rel K E ρ' G' σ' H' → P H')
    (hY : ∀ i d E ρ' G' σ' H' x H2, ds[i]? = some d → Ex G G' → Rel K E ρ' G' σ' H' → Y i H' x H2 → ∃ G2, Ex G' G2 ∧ Rel K E ρ' G2 σ' H2 ∧ Rp K G2 x d) : JOk K G J ds := by
  subst hn
  exact ⟨fun i E ρ' G' σ' H' hi e r => w.goes i H' hi (hP E ρ' G' σ' H' e r), fun i d E ρ' G' σ' H' x H2 hd e r y => hY i d E ρ' G' σ' H' x H2 hd e r (w.yields i H' x H2 (List.getElem?_eq_some_iff.mp hd).1 (hP E ρ' G' σ' H' e r) y), fun E ρ' G' σ' H' e r => w.stops H' (hP E ρ' G' σ' H' e r)⟩
theorem yAt {xs : List V} {ds : List D} (rp : Rps K G xs ds) : ∀ (i : Nat) (d : D) (E : Ent) (ρ' : S) (G' : Hp) (σ' : L2.St) (H' : Hp) (x : V) (H2 : Hp), ds[i]? = some d → Ex G G' → Rel K E ρ' G' σ' H' → YAt xs i H' x H2 → ∃ G2, Ex G' G2 ∧ Rel K E ρ' G2 σ' H2 ∧ Rp K G2 x d :=
  fun i d E ρ' G' σ' H' x H2 hd e r y => by
  obtain ⟨rfl, hx⟩ := y
  obtain ⟨v, hv, rv⟩ := rp.get hd
  rw [hx] at hv
  cases hv
  exact ⟨G', Ex.refl _, r, rv.mono e⟩
theorem yPair {xs ys : Nat → Option V} {ds : List D} (rp : ∀ i d, ds[i]? = some d → ∃ x y, xs i = some x ∧ ys i = some y ∧ ∃ c e, d = .tuple [c, e] ∧ Rp K G x c ∧ Rp K G y e) :
    ∀ (i : Nat) (d : D) (E : Ent) (ρ' : S) (G' : Hp) (σ' : L2.St) (H' : Hp) (x : V) (H2 : Hp), ds[i]? = some d → Ex G G' → Rel K E ρ' G' σ' H' → YPair xs ys i H' x H2 → ∃ G2, Ex G' G2 ∧ Rel K E ρ' G2 σ' H2 ∧ Rp K G2 x d :=
  fun i d E ρ' G' σ' H' v H2 hd e r y => by
  obtain ⟨T, x, y, rfl, hT, rfl, hx, hy⟩ := y
  obtain ⟨x', y', ex, ey, c, u, rfl, rc, ru⟩ := rp i d hd
  rw [hx] at ex
  rw [hy] at ey
  cases ex
  cases ey
  obtain ⟨r2, e2⟩ := r.made (o := .tup [x, y]) hT
  exact ⟨_, e2, r2, .tup (.inl (.inl upd_same)) (.cons (rc.mono (e.trans e2)) (.cons (ru.mono (e.trans e2)) .nil))⟩
end
def datK (a : AV) (k : D → Prop) : Prop :=
  match a with
  | .dat d => k d
  | _ => False
theorem Res.datK {K : PySem.W.Frag} {E : Ent} {ρ : S} {G H : Hp} {σ : L2.St} {a : AV} {v : V} {k : D → Prop} (q : Res K E ρ G σ H a v) (h : datK a k) : ∃ d, Rp K G v d ∧ k d := by
  cases a <;> first | exact h.elim | skip
  rcases q with ⟨i, z, _⟩ | ⟨_, hh⟩ | ⟨z, _⟩
  · cases z
  · exact ⟨_, hh, h⟩
  · cases z
def iSeq (g : D → (List D → Prop) → Prop) (fa : FE) : FI := fun ρ k x => fa ρ (fun a ρ1 => fz a fun a' => datK a' fun d => g d fun ds => k ds ρ1) x
def lK (d : D) (k : List D → Prop) : Prop :=
  match d with
  | .list ds => k ds
  | _ => False
def tK (d : D) (k : List D → Prop) : Prop :=
  match d with
  | .tuple ds => k ds
  | _ => False
def sK (d : D) (k : List D → Prop) : Prop :=
  match d with
  | .str z => k (z.cps.toList.map fun c => .str ⟨#[c]⟩)
  | _ => False
section
variable {X : Cx} {fa : FE} {fr : FA} {tg e e2 : Expr} {p pos : Pos}
theorem ti_list (h : TrE X e fa) : TrI X tg e (iSeq lK fa) := ⟨_, pi_list pe_w, fun W E ρ G σ H R k x tk Rl lx lk hf => by
  refine h W E ρ G σ H _ _ x tk Rl lx (fun a ρ1 G1 v H1 e1 R1 q1 h1 => ?_) hf
  obtain ⟨a', G2, no, e2, R2, q2, h1⟩ := q1.fz R1 h1
  obtain ⟨d, rp, h1⟩ := q2.datK h1
  cases rp <;> first | exact h1.elim | skip
  rename_i b xs ds g r
  exact ⟨b, rfl, ⟨xs, .inl (.inl (R2.sub _ _ g))⟩, lk ds ρ1 G2 _ H1 (e1.trans e2) R2 (.of walk_list r.len (fun E ρ' G' σ' H' e3 R3 => .inl (.inl (R3.sub _ _ (e3 _ _ g)))) (yAt r)) h1⟩⟩
theorem ti_tup (h : TrE X e fa) : TrI X tg e (iSeq tK fa) := ⟨_, pi_tup pe_w, fun W E ρ G σ H R k x tk Rl lx lk hf => by
  refine h W E ρ G σ H _ _ x tk Rl lx (fun a ρ1 G1 v H1 e1 R1 q1 h1 => ?_) hf
  obtain ⟨a', G2, no, e2, R2, q2, h1⟩ := q1.fz R1 h1
  obtain ⟨d, rp, h1⟩ := q2.datK h1
  cases rp <;> first | exact h1.elim | skip
  rename_i b xs ds g r
  exact ⟨b, rfl, ⟨xs, ex_t R2.sub g⟩, lk ds ρ1 G2 _ H1 (e1.trans e2) R2 (.of walk_tup r.len (fun E ρ' G' σ' H' e3 R3 => ex_t R3.sub (ex_t e3 g)) (yAt r)) h1⟩⟩
theorem ti_str (h : TrE X e fa) : TrI X tg e (iSeq sK fa) := ⟨_, pi_str pe_w, fun W E ρ G σ H R k x tk Rl lx lk hf => by
  refine h W E ρ G σ H _ _ x tk Rl lx (fun a ρ1 G1 v H1 e1 R1 q1 h1 => ?_) hf
  obtain ⟨a', G2, no, e2, R2, q2, h1⟩ := q1.fz R1 h1
  obtain ⟨d, rp, h1⟩ := q2.datK h1
  cases rp <;> first | exact h1.elim | skip
  rename_i z
  refine ⟨z, rfl, lk _ ρ1 G2 _ H1 (e1.trans e2) R2 (.of walk_str (by rw [List.length_map, Array.length_toList]) (fun _ _ _ _ _ _ _ => trivial) fun i d E ρ' G' σ' H' x H2 hd e3 R3 y => ?_) h1⟩
  obtain ⟨rfl, c, hc, rfl⟩ := y
  rw [List.getElem?_map, Array.getElem?_toList, hc] at hd
  cases hd
  exact ⟨G', Ex.refl _, R3, .str _⟩⟩
def rngD (lo : Int) (n : Nat) : List D := (List.range n).map fun i => .int (lo + (i : Nat))
theorem rngD_ok {K : PySem.W.Frag} {G : Hp} {lo : Int} {n : Nat} : JOk K G (Itr lo n) (rngD lo n) := .of walk_range (by unfold rngD; rw [List.length_map, List.length_range]) (fun _ _ _ _ _ _ _ => trivial) fun i d E ρ' G' σ' H' x H2 hd e R y => by
  obtain ⟨rfl, rfl⟩ := y
  unfold rngD at hd
  rw [List.getElem?_map] at hd
  obtain ⟨j, hj, rfl⟩ := Option.map_eq_some_iff.mp hd
  obtain ⟨hl, hj⟩ := List.getElem?_eq_some_iff.mp hj
  rw [List.getElem_range] at hj
  subst hj
  exact ⟨G', Ex.refl _, R, .int _⟩
def iR1 (fr : FA) : FI := fun ρ k x => fr ρ (fun as ρ1 => vws ρ1 as fun ds => match ds with | [.int j] => (-(2 ^ 62) ≤ j ∧ j < 2 ^ 62) ∧ k (rngD 0 j.toNat) ρ1 | _ => False) x
theorem ti_range1 (hg : Gl X "range") (hm : X.mg "range" = none) (h : TrA X [e] fr) (hs : starEach [e] X.env = [(false, eval e X.env)] := by rfl) : TrI X tg (.Call (.Name "range" p) [e] [] pos) (iR1 fr) := ⟨_, pi_range1 hg hm pa_w hs, fun W E ρ G σ H R k x tk Rl lx lk hf => by
  refine h W E ρ G σ H _ _ x tk Rl lx (fun as ρ1 G1 vs H1 e1 R1 q1 h1 => ?_) hf
  obtain ⟨ds, pr, h1⟩ := vws_vw R1 q1 h1
  split at h1
  · rename_i j
    obtain ⟨v, rfl, hv⟩ := pair1 pr
    exact ⟨j, by rw [hv.ints], h1.1.1, h1.1.2, lk _ ρ1 G1 _ H1 e1 R1 rngD_ok h1.2⟩
  · exact h1.elim⟩
def enumD : Nat → List D → List D
  | _, [] => []
  | i, d :: ds => .tuple [.int (i : Nat), d] :: enumD (i + 1) ds
theorem enumD_get : ∀ (ds : List D) (n i : Nat), (enumD n ds)[i]? = (ds[i]?).map fun d => .tuple [.int ((n + i : Nat) : Int), d]
  | [], _, _ => rfl
  | d :: ds, n, 0 => rfl
  | d :: ds, n, i + 1 => by
    show (enumD (n + 1) ds)[i]? = _
    rw [enumD_get ds (n + 1) i, show n + 1 + i = n + (i + 1) by omega]
    rfl
theorem enumD_len : ∀ (ds : List D) (n : Nat), (enumD n ds).length = ds.length
  | [], _ => rfl
  | d :: ds, n => congrArg (· + 1) (enumD_len ds (n + 1))
def zipD (ds es : List D) : List D := (ds.zip es).map fun p => .tuple [p.1, p.2]
def iEn (fr : FA) : FI := fun ρ k x => fr ρ (fun as ρ1 => dats as fun ds => match ds with | [.list xs] => k (enumD 0 xs) ρ1 | _ => False) x
def iZ (fr : FA) : FI := fun ρ k x => fr ρ (fun as ρ1 => dats as fun ds => match ds with | [.list xs, .list ys] => k (zipD xs ys) ρ1 | _ => False) x
def iZM (fr : FA) : FI := fun ρ k x => fr ρ (fun as ρ1 => dats as fun ds => match ds with | [.list xs, .tuple ys] => k (zipD xs ys) ρ1 | _ => False) x
theorem ti_enum {elts : List Expr} {kk : Nat} {tpos : Pos} (hg : Gl X "enumerate") (hm : X.mg "enumerate" = none) (h : TrA X [e] fr) (hs : starEach [e] X.env = [(false, eval e X.env)] := by rfl) : TrI X (.Tuple elts kk tpos) (.Call (.Name "enumerate" p) [e] [] pos) (iEn fr) := ⟨_, pi_enum hg hm pa_w hs, fun W E ρ G σ H R k x tk Rl lx lk hf => by
  refine h W E ρ G σ H _ _ x tk Rl lx (fun as ρ1 G1 vs H1 e1 R1 q1 h1 => ?_) hf
  obtain ⟨ds, rp, h1⟩ := dats_rps q1 h1
  split at h1
  · rename_i xs
    cases rp with
    | cons r t =>
      cases t
      cases r with
      | lst g r =>
        refine ⟨_, _, rfl, .inl (.inl (R1.sub _ _ g)), lk _ ρ1 G1 _ H1 e1 R1 (.of walk_enum (by rw [enumD_len, r.len]) (fun E ρ' G' σ' H' e3 R3 => .inl (.inl (R3.sub _ _ (e3 _ _ g)))) (yPair fun i d hd => ?_)) h1⟩
        rw [enumD_get] at hd
        obtain ⟨c, hc, rfl⟩ := Option.map_eq_some_iff.mp hd
        obtain ⟨v, hv, rv⟩ := r.get hc
        rw [Nat.zero_add]
        exact ⟨_, v, rfl, hv, _, c, rfl, .int _, rv⟩
  · exact h1.elim⟩
theorem zipD_pair {K : PySem.W.Frag} {G : Hp} {xs ys : List V} {ds es : List D} (r : Rps K G xs ds) (s : Rps K G ys es) : ∀ (i : Nat) (d : D), (zipD ds es)[i]? = some d → ∃ x y, xs[i]? = some x ∧ ys[i]? = some y ∧ ∃ c e, d = .tuple [c, e] ∧ Rp K G x c ∧ Rp K G y e := fun i d hd => by
  unfold zipD at hd
  rw [List.getElem?_map] at hd
  obtain ⟨q, hq, rfl⟩ := Option.map_eq_some_iff.mp hd
  rw [List.getElem?_zip_eq_some] at hq
  obtain ⟨v, hv, rv⟩ := r.get hq.1
  obtain ⟨u, hu, ru⟩ := s.get hq.2
  exact ⟨v, u, hv, hu, _, _, rfl, rv, ru⟩
theorem ti_zip {elts : List Expr} {kk : Nat} {tpos : Pos} (hg : Gl X "zip") (hm : X.mg "zip" = none) (h : TrA X [e, e2] fr) (hs : starEach [e, e2] X.env = (false, eval e X.env) :: starEach [e2] X.env := by rfl) (hpl : (backTo pos (starEach [e2] X.env)).any (·.1) = false := by rfl) :
    TrI X (.Tuple elts kk tpos) (.Call (.Name "zip" p) [e, e2] [] pos) (iZ fr) := ⟨_, pi_zip hg hm pa_w hs hpl, fun W E ρ G σ H R k x tk Rl lx lk hf => by
  refine h W E ρ G σ H _ _ x tk Rl lx (fun as ρ1 G1 vs H1 e1 R1 q1 h1 => ?_) hf
  obtain ⟨ds, rp, h1⟩ := dats_rps q1 h1
  split at h1
  · rename_i xs ys
    cases rp with
    | cons r t =>
      cases t with
      | cons s t =>
        cases t
        cases r with
        | lst g r =>
          cases s with
          | lst g2 s =>
            refine ⟨_, _, _, _, rfl, .inl (.inl (R1.sub _ _ g)), .inl (.inl (R1.sub _ _ g2)), lk _ ρ1 G1 _ H1 e1 R1 (.of (walk_zip rfl) ?_ (fun E ρ' G' σ' H' e3 R3 => ⟨.inl (.inl (R3.sub _ _ (e3 _ _ g))), .inl (.inl (R3.sub _ _ (e3 _ _ g2)))⟩) (yPair (zipD_pair r s))) h1⟩
            unfold zipD
            rw [List.length_map, List.length_zip, r.len, s.len]
  · exact h1.elim⟩
theorem ti_zipM {elts : List Expr} {kk : Nat} {tpos : Pos} (hg : Gl X "zip") (hm : X.mg "zip" = none) (h : TrA X [e, e2] fr) (hs : starEach [e, e2] X.env = (false, eval e X.env) :: starEach [e2] X.env := by rfl) (hpl : (backTo pos (starEach [e2] X.env)).any (·.1) = false := by rfl) :
    TrI X (.Tuple elts kk tpos) (.Call (.Name "zip" p) [e, e2] [] pos) (iZM fr) := ⟨_, pi_zipM hg hm pa_w hs hpl, fun W E ρ G σ H R k x tk Rl lx lk hf => by
  refine h W E ρ G σ H _ _ x tk Rl lx (fun as ρ1 G1 vs H1 e1 R1 q1 h1 => ?_) hf
  obtain ⟨ds, rp, h1⟩ := dats_rps q1 h1
  split at h1
  · rename_i xs ys
    cases rp with
    | cons r t =>
      cases t with
      | cons s t =>
        cases t
        cases r with
        | lst g r =>
          cases s with
          | tup g2 s =>
            refine ⟨_, _, _, _, rfl, .inl (.inl (R1.sub _ _ g)), ex_t R1.sub g2, lk _ ρ1 G1 _ H1 e1 R1 (.of (walk_zipM rfl) ?_ (fun E ρ' G' σ' H' e3 R3 => ⟨.inl (.inl (R3.sub _ _ (e3 _ _ g))), ex_t R3.sub (ex_t e3 g2)⟩) (yPair (zipD_pair r s))) h1⟩
            unfold zipD
            rw [List.length_map, List.length_zip, r.len, s.len]
  · exact h1.elim⟩
end
def forF (g : FG) (fb : FS) : List D → FS
  | [], ρ, N, _ => N.nx ρ
  | d :: ds, ρ, N, x => g d ρ fun ρ1 => fb ρ1 { N with nx := fun ρ2 => forF g fb ds ρ2 N x, ct := fun ρ2 => forF g fb ds ρ2 N x, bk := N.nx } x
def sFor (fi : FI) (g : FG) (fb : FS) : FS := fun ρ N x => fi ρ (fun ds ρ1 => forF g fb ds ρ1 N x) x
section
variable {X : Cx} {fi : FI} {g : FG} {fb : FS} {tg iter : Expr} {body : List Stmt} {pos : Pos} {is : List Nat}
theorem ts_for (hi : TrI X tg iter fi) (hg : TrG X tg is g) (hb : TrB X body fb) (hp : PassesOwn (model X.prog X.w) X.A X.env X.xe) (hc : X.calm = true) (hs : ∀ x, foldedSetIterable iter X.env x = pure x := by intro _; rfl) : TrS X (.For tg iter body [] pos) (sFor fi g fb) := by
  obtain ⟨wi, pi, ri⟩ := hi
  obtain ⟨t, pg, rg⟩ := hg
  refine .of (ps_for hp hc pi pg pb_w hs) fun W E ρ G σ H M N x tk R lx lk hf => ?_
  refine ri W E ρ G σ H _ _ x tk R lx (fun ds ρ1 G1 J H1 e1 R1 jo h1 => ?_) hf
  refine ⟨fun i m σ' H' => m = ds.length - i ∧ i ≤ ds.length ∧ ∃ ρ' G', Ex G1 G' ∧ Rel X.K E ρ' G' σ' H' ∧ forF g fb (ds.drop i) ρ' N x, ⟨ds.length, by simp, Nat.zero_le _, ρ1, G1, Ex.refl _, R1, h1⟩, ?_⟩
  rintro i m σ' H' ⟨rfl, hi, ρ', G', e2, R2, h2⟩
  by_cases hlt : i < ds.length
  · rw [List.drop_eq_getElem_cons hlt] at h2
    refine .inr ⟨jo.go i E ρ' G' σ' H' hlt e2 R2, fun σ2 H2 => ∃ ρ2 G2, Ex G1 G2 ∧ Rel X.K E ρ2 G2 σ2 H2 ∧ forF g fb (ds.drop (i + 1)) ρ2 N x, fun σ2 H2 hN => ⟨ds.length - (i + 1), by omega, rfl, hlt, hN⟩, fun v H3 y => ?_⟩
    obtain ⟨G3, e3, R3, rp⟩ := jo.yld i ds[i] E ρ' G' σ' H' v H3 (List.getElem?_eq_getElem hlt) e2 R2 y
    refine rg E ρ' G3 σ' H3 v _ _ _ R3 rp (fun ρ4 σ4 R4 _ _ _ h4 => ?_) h2
    refine hb W E ρ4 G3 σ4 H3 _ { N with nx := fun ρ2 => forF g fb (ds.drop (i + 1)) ρ2 N x, ct := fun ρ2 => forF g fb (ds.drop (i + 1)) ρ2 N x, bk := N.nx } x tk R4 lx ⟨fun ρ5 G5 σ5 H5 e5 R5 h5 => ⟨ρ5, G5, (e2.trans e3).trans e5, R5, h5⟩, fun a ρ5 G5 σ5 v5 H5 e5 => lk.rt a ρ5 G5 σ5 v5 H5 (((e1.trans e2).trans e3).trans e5), fun ρ5 G5 σ5 H5 e5 => lk.nx ρ5 G5 σ5 H5 (((e1.trans e2).trans e3).trans e5), fun ρ5 G5 σ5 H5 e5 R5 h5 => ⟨ρ5, G5, (e2.trans e3).trans e5, R5, h5⟩⟩ h4
  · have e : i = ds.length := by omega
    subst e
    rw [List.drop_length] at h2
    exact .inl ⟨jo.stop E ρ' G' σ' H' e2 R2, lk.nx ρ' G' σ' H' (e1.trans e2) R2 h2⟩
def whF (ft : FT) (fb : FS) : Nat → FS
  | 0, _, _, _ => False
  | n + 1, ρ, N, x => ft ρ (fun b ρ1 => if b = true then fb ρ1 { N with nx := fun ρ2 => whF ft fb n ρ2 N x, ct := fun ρ2 => whF ft fb n ρ2 N x, bk := N.nx } x else N.nx ρ1) x
def sWhile (ft : FT) (fb : FS) : FS := fun ρ N x => ∃ n, whF ft fb n ρ N x
theorem ts_while {ft : FT} {c : Expr} (hc : TrT X c ft) (hb : TrB X body fb) (hp : PassesOwn (model X.prog X.w) X.A X.env X.xe) : TrS X (.While c body [] pos) (sWhile ft fb) := by
  refine .of (ps_while hp pt_w pb_w) fun W E ρ G σ H M N x tk R lx lk hf => ?_
  obtain ⟨n, hf⟩ := hf
  refine ⟨fun m σ' H' => ∃ ρ' G', Ex G G' ∧ Rel X.K E ρ' G' σ' H' ∧ whF ft fb m ρ' N x, ⟨n, ρ, G, Ex.refl _, R, hf⟩, ?_⟩
  rintro m σ' H' ⟨ρ', G', e2, R2, h2⟩
  cases m with
  | zero => exact h2.elim
  | succ m =>
    refine hc W E ρ' G' σ' H' _ _ x tk R2 lx (fun b ρ1 G1 H1 e1 R1 h1 => ?_) h2
    cases b with
    | true =>
      refine ⟨fun σ2 H2 => ∃ ρ2 G2, Ex G G2 ∧ Rel X.K E ρ2 G2 σ2 H2 ∧ whF ft fb m ρ2 N x, fun σ2 H2 hN => ⟨m, Nat.lt_succ_self m, hN⟩, ?_⟩
      exact hb W E ρ1 G1 σ' H1 _ { N with nx := fun ρ2 => whF ft fb m ρ2 N x, ct := fun ρ2 => whF ft fb m ρ2 N x, bk := N.nx } x tk R1 lx ⟨fun ρ5 G5 σ5 H5 e5 R5 h5 => ⟨ρ5, G5, (e2.trans e1).trans e5, R5, h5⟩, fun a ρ5 G5 σ5 v5 H5 e5 => lk.rt a ρ5 G5 σ5 v5 H5 ((e2.trans e1).trans e5), fun ρ5 G5 σ5 H5 e5 => lk.nx ρ5 G5 σ5 H5 ((e2.trans e1).trans e5), fun ρ5 G5 σ5 H5 e5 R5 h5 => ⟨ρ5, G5, (e2.trans e1).trans e5, R5, h5⟩⟩ h1
    | false => exact lk.nx ρ1 G1 σ' H1 (e2.trans e1) R1 h1
end
end Tr
set_option Elab.async false
set_option linter.all false
set_option maxRecDepth 100000
namespace Tr
open PySem PySem.Spec PyProof.Rows L2 Evl Kc Kz
def wipeA (ρ : S) : List Nat → S
  | [] => ρ
  | v :: vs => (wipeA ρ vs).set v none
def backA (ρ : S) : List Nat → S → S
  | [], ρ' => ρ'
  | v :: vs, ρ' => (backA ρ vs ρ').set v ((ρ[v]?).getD none)
def okv (vs : List Nat) (ρ : S) : Bool := vs.all fun j => match ρ[j]? with | some (some a) => !a.isOwn | _ => true
section
variable {K : PySem.W.Frag} {E : Ent} {ρ ρ' : S} {G G' H H' : Hp} {σ σ' : L2.St} {p : Addr}
theorem Rel.wipe (r : Rel K E ρ G σ H) : ∀ vs : List Nat, Rel K E (wipeA ρ vs) G (wipe σ vs) H
  | [] => r
  | v :: vs => (Rel.wipe r vs).forget
theorem back_get {j : Nat} {a : AV} : ∀ {vs : List Nat}, (backA ρ vs ρ')[j]? = some (some a) → (j ∈ vs ∧ ρ[j]? = some (some a)) ∨ (j ∉ vs ∧ ρ'[j]? = some (some a))
  | [], h => .inr ⟨by simp, h⟩
  | v :: vs, h => by
    have h : ((backA ρ vs ρ').set v ((ρ[v]?).getD none))[j]? = some (some a) := h
    rw [List.getElem?_set] at h
    split at h
    · rename_i e
      split at h
      · refine .inl ⟨by rw [e]; exact List.mem_cons_self, ?_⟩
        rw [← e]
        cases q : ρ[v]? with
        | none => rw [q] at h; cases h
        | some b => rw [q] at h; exact h
      · cases h
    · rename_i n
      rcases back_get h with ⟨h1, h2⟩ | ⟨h1, h2⟩
      · exact .inl ⟨List.mem_cons_of_mem _ h1, h2⟩
      · refine .inr ⟨fun z => ?_, h2⟩
        obtain z | z := List.mem_cons.mp z
        · exact n z.symm
        · exact h1 z
theorem back_len : ∀ vs : List Nat, (backA ρ vs ρ').length = ρ'.length
  | [] => rfl
  | v :: vs => by
    show ((backA ρ vs ρ').set v _).length = _
    rw [List.length_set, back_len vs]
def Nown (vs : List Nat) (ρ : S) : Prop := ∀ (j : Nat) (a : AV), j ∈ vs → ρ[j]? = some (some a) → a.isOwn = false
theorem okv_of {vs : List Nat} (h : okv vs ρ = true) : Nown vs ρ := fun j a hj e => by
  have := List.all_eq_true.mp h j hj
  rw [e] at this
  simpa using this
theorem Nown.back {vs : List Nat} (h : Nown vs ρ) : Nown vs (backA ρ vs ρ') := fun j a hj e => by
  rcases back_get e with ⟨_, h2⟩ | ⟨h1, _⟩
  · exact h j a hj h2
  · exact absurd hj h1
theorem Rel.unblk {vs : List Nat} {G0 H0 : Hp} (r0 : Rel K E ρ G0 σ H0) (r : Rel K E ρ' G σ' H) (e : Ex G0 G) (no : Nown vs ρ) (hl : σ'.length = σ.length) (ag : ∀ j, j ∉ vs → σ'[j]? = σ[j]?) : Rel K E (backA ρ vs ρ') G σ H := by
  have own : ∀ {j : Nat} {a : AV}, (backA ρ vs ρ')[j]? = some (some a) → a.isOwn = true → ρ'[j]? = some (some a) ∧ σ'[j]? = σ[j]? := fun {j a} h o => by
    rcases back_get h with ⟨h1, h2⟩ | ⟨h1, h2⟩
    · rw [no j a h1 h2] at o
      cases o
    · exact ⟨h2, ag j h1⟩
  refine ⟨r.sub, by rw [back_len, r.len, hl], fun j a h => ?_, fun i j a b v n h1 h2 o1 o2 e1 e2 => ?_, fun j a q h o z => ?_, fun j a h o => ?_, r.grow, r.new, r.but, r.live, r.h0p, fun b u h => ?_, r.fno, r.gno⟩
  · rcases back_get h with ⟨h1, h2⟩ | ⟨h1, h2⟩
    · obtain ⟨v, ev, hh⟩ := r0.slot j a h2
      exact ⟨v, ev, hh.still e (no j a h1 h2)⟩
    · obtain ⟨v, ev, hh⟩ := r.slot j a h2
      exact ⟨v, by rw [← ag j h1]; exact ev, hh⟩
  · obtain ⟨a1, s1⟩ := own h1 o1
    obtain ⟨a2, s2⟩ := own h2 o2
    exact r.apart i j a b v n a1 a2 o1 o2 (s1.trans e1) (s2.trans e2)
  · obtain ⟨a1, s1⟩ := own h o
    exact r.mine j a q a1 o (s1.trans z)
  · obtain ⟨a1, s1⟩ := own h (AV.par_own o)
    rw [← s1]
    exact r.par j a a1 o
  · obtain ⟨h1, h2, h3⟩ := r.frm b u h
    refine ⟨h1, h2, fun j a hj o z => ?_⟩
    obtain ⟨a1, s1⟩ := own hj o
    exact h3 j a a1 o (s1.trans z)
theorem loose_back {vs : List Nat} (l : Loose ρ' σ' p) (no : Nown vs ρ) (ag : ∀ j, j ∉ vs → σ'[j]? = σ[j]?) : Loose (backA ρ vs ρ') σ p := fun j a h o z => by
  rcases back_get h with ⟨h1, h2⟩ | ⟨h1, h2⟩
  · rw [no j a h1 h2] at o
    cases o
  · exact l j a h2 o ((ag j h1).trans z)
theorem wipe_in {σ : L2.St} {i : Nat} : ∀ {vs : List Nat}, i ∈ vs → (L2.wipe σ vs)[i]? = if i < σ.length then some none else none
  | v :: vs, h => by
    show ((L2.wipe σ vs).set v none)[i]? = _
    rw [List.getElem?_set]
    by_cases e : v = i
    · rw [if_pos e, wipe_length, e]
    · rw [if_neg e]
      exact wipe_in (List.mem_of_ne_of_mem (fun z => e z.symm) h)
theorem wipe_same {vs : List Nat} (hl : σ'.length = σ.length) (ag : ∀ j, j ∉ vs → σ'[j]? = σ[j]?) : L2.wipe σ' vs = L2.wipe σ vs := by
  apply List.ext_getElem?; intro j
  by_cases h : j ∈ vs
  · rw [wipe_in h, wipe_in h, hl]
  · rw [wipe_out h, wipe_out h, ag j h]
end
def noX : KX := fun _ _ => False
def lcF (vs : List Nat) (g : FG) (ft : FT) (fe : FE) : List D → List D → S → (List D → S → Prop) → Prop
  | [], acc, ρ, k => k acc ρ
  | d :: ds, acc, ρ, k => g d (wipeA ρ vs) fun ρ2 => ft ρ2 (fun b ρ3 => if b = true then fe ρ3 (fun a ρ4 => fz a fun a' => datK a' fun r => acc.length < sizeLine ∧ lcF vs g ft fe ds (acc ++ [r]) (backA ρ vs ρ4) k) noX else lcF vs g ft fe ds acc (backA ρ vs ρ3) k) noX
def fLc (vs : List Nat) (fi : FI) (g : FG) (ft : FT) (fe : FE) : FE := fun ρ k x => fi ρ (fun ds ρ1 => okv vs ρ1 = true ∧ lcF vs g ft fe ds [] ρ1 fun acc ρ2 => k (.own false (.list acc)) ρ2) x
def fYes : FT := fun ρ k _ => k true ρ
section
variable {X : Cx} {elt tg iter : Expr} {ifs : List Expr} {scope : Scope} {own : List (Str × Nat)} {pos : Pos} {fi : FI} {g : FG} {ft : FT} {fe : FE} {is : List Nat}
theorem ref_lcΦ {Φ : Hp → Prop} {wi : TI} {tg' : TG} {tt : TT} {te : TE} (hΦ : ∀ W E, TakesT X W E → Φ E.H0) (ri : RefI X wi fi) (rg : RefG X tg' is g) (hin : ∀ i ∈ is, i ∈ own.map (·.2))
    (rt : ∀ (E : Ent) (ρ : S) (G : Hp) (σ : L2.St) (H : Hp) (Q : Bool → Hp → Prop) (k : Bool → S → Prop), Φ E.H0 → Rel X.K E ρ G σ H → LkT X.K E G σ k Q → ft ρ k noX → tt σ H Q)
    (re : ∀ (E : Ent) (ρ : S) (G : Hp) (σ : L2.St) (H : Hp) (Q : VK) (k : KE), Φ E.H0 → Rel X.K E ρ G σ H → LkE X.K E G σ k Q → fe ρ k noX → te σ H Q) :
    RefE X (tLc wi tg' tt te (own.map (·.2))) (fLc (own.map (·.2)) fi g ft fe) := fun W E ρ G σ H Q k x tk R lx lk hf => by
  have told := hΦ W E tk
  generalize hvs : own.map (·.2) = vs at *
  refine ri W E ρ G σ H _ _ x tk R lx (fun ds ρ1 G1 J H1 e1 R1 jo h1 => fun q nq => ?_) hf
  obtain ⟨ok, h1⟩ := h1
  have D0 := R1.h0 nq
  have DF := R1.f0 nq
  have DP := R1.notps nq
  let Pv : Nat → Hp → Prop := fun i H' => ∃ ρ' G' accV acc, Ex G1 G' ∧ Rel X.K E ρ' G' σ H' ∧ Nown vs ρ' ∧ H' q = some (.lst accV) ∧ G' q = none ∧ Loose ρ' σ q ∧ Rps X.K G' accV acc ∧ lcF vs g ft fe (ds.drop i) acc ρ' fun acc ρ2 => k (.own false (.list acc)) ρ2
  refine ⟨fun i m H' => m = ds.length - i ∧ i ≤ ds.length ∧ Pv i H', ⟨ds.length, by simp, Nat.zero_le _, ρ1, G1, [], [], Ex.refl _, R1.alloc nq, okv_of ok, upd_same, R1.g0 nq, R1.loose nq, .nil, h1⟩, ?_⟩
  rintro i m H' ⟨rfl, hi, ρ', G', accV, acc, e2, R2, no, hD, gD, lD, racc, h2⟩
  by_cases hlt : i < ds.length
  · rw [List.drop_eq_getElem_cons hlt] at h2
    refine .inr ⟨jo.go i E ρ' G' σ H' hlt e2 R2, Pv (i + 1), fun H3 p => ⟨ds.length - (i + 1), by omega, rfl, hlt, p⟩, fun v H3 y => ?_⟩
    have RA := R2.aside hD gD lD
    obtain ⟨G3, e3, R3, rp⟩ := jo.yld i ds[i] _ ρ' G' σ H' v H3 (List.getElem?_eq_getElem hlt) e2 RA y
    refine rg _ _ G3 _ H3 v _ _ _ (R3.wipe vs) rp (fun ρ4 σ4 R4 l4 s4 _ h4 => ?_) h2
    have ag : ∀ j, j ∉ vs → σ4[j]? = σ[j]? := fun j hj => by rw [s4 j fun z => hj (hin j z), wipe_out hj]
    have l4' : σ4.length = σ.length := by rw [l4, wipe_length]
    refine ⟨wipe_same l4' ag, ?_⟩
    -- what a turn leaves
    have fin : ∀ {ρ5 : S} {G5 H5 : Hp} {accV2 : List V} {acc2 : List D}, Ex G3 G5 → Rel X.K E ρ5 G5 σ4 H5 → H5 q = some (.lst accV2) → G5 q = none → Loose ρ5 σ4 q → Rps X.K G5 accV2 acc2 → lcF vs g ft fe (ds.drop (i + 1)) acc2 (backA ρ' vs ρ5) (fun acc ρ2 => k (.own false (.list acc)) ρ2) → Pv (i + 1) H5 :=
      fun {ρ5 G5 H5 accV2 acc2} e5 R5 a1 a2 a3 a4 a5 => ⟨_, G5, accV2, acc2, (e2.trans e3).trans e5, R2.unblk R5 (e3.trans e5) no l4' ag, no.back, a1, a2, loose_back a3 no ag, a4, a5⟩
    refine rt _ ρ4 G3 σ4 H3 _ _ (by exact told) R4 (fun b ρ5 G5 H5 e5 R5 h5 => ?_) h4
    cases b with
    | false =>
      obtain ⟨R6, a1, a2, a3⟩ := R5.back DF
      exact fin e5 R6 a1 a2 a3 (racc.mono (e3.trans e5)) h5
    | true =>
      refine re _ ρ5 G5 σ4 H5 _ _ (by exact told) R5 (fun a ρ6 G6 u H6 e6 R6 q6 h6 => ?_) h5
      obtain ⟨a', G7, _, e7, R7, q7, h7⟩ := q6.fz R6 h6
      obtain ⟨r, rr, hz, h7⟩ := q7.datK h7
      obtain ⟨R8, a1, a2, a3⟩ := R7.back DF
      have all := ((e3.trans e5).trans e6).trans e7
      refine ⟨accV, a1, by rw [racc.len]; exact hz, ?_⟩
      refine fin ((e5.trans e6).trans e7) (R8.other a3 a2 D0 DP DF (mut_lst a1)) upd_same a2 a3 ((racc.mono all).app (.cons rr .nil)) h7
  · have e : i = ds.length := by omega
    subst e
    rw [List.drop_length] at h2
    exact .inl ⟨jo.stop E ρ' G' σ H' e2 R2, lk (.own false (.list acc)) ρ' G' _ H' (e1.trans e2) R2 (.inr (.inr ⟨rfl, rfl, q, rfl, gD, ⟨accV, hD, racc⟩, ⟨D0, DF⟩, lD⟩)) h2⟩
theorem ref_lc {wi : TI} {tg' : TG} {tt : TT} {te : TE} (ri : RefI X wi fi) (rg : RefG X tg' is g) (hin : ∀ i ∈ is, i ∈ own.map (·.2))
    (rt : ∀ (E : Ent) (ρ : S) (G : Hp) (σ : L2.St) (H : Hp) (Q : Bool → Hp → Prop) (k : Bool → S → Prop), Rel X.K E ρ G σ H → LkT X.K E G σ k Q → ft ρ k noX → tt σ H Q)
    (re : ∀ (E : Ent) (ρ : S) (G : Hp) (σ : L2.St) (H : Hp) (Q : VK) (k : KE), Rel X.K E ρ G σ H → LkE X.K E G σ k Q → fe ρ k noX → te σ H Q) :
    RefE X (tLc wi tg' tt te (own.map (·.2))) (fLc (own.map (·.2)) fi g ft fe) :=
  ref_lcΦ (Φ := fun _ => True) (fun _ _ _ => trivial) ri rg hin (fun E ρ G σ H Q k _ => rt E ρ G σ H Q k) fun E ρ G σ H Q k _ => re E ρ G σ H Q k
theorem lkx0 {K : PySem.W.Frag} {E : Ent} {W : WX} : LkX K E noX W := fun _ _ _ _ _ _ _ _ h => h.elim
def wG (X : Cx) (tg : Expr) : TG := fun v σ H Q => ∀ (pins : List (Addr × Obj)) (s : Shared) (u : Value), Inv X pins σ H s → RelV v u → wpAny (model X.prog X.w) X.A (assign tg X.env u) (fun _ s' => ∃ σ' H', Inv X pins σ' H' s' ∧ Q σ' H') X.xe s
theorem TrG.w (h : TrG X tg is g) : RefG X (wG X tg) is g := by
  obtain ⟨t, p, r⟩ := h
  exact fun E ρ G σ H v d Q k R rp lk hf pins s u I ru => p.run pins s σ H v u Q I ru (r E ρ G σ H v d Q k R rp lk hf)
abbrev Blk (X : Cx) (scope : Scope) (P : Cx → Prop) : Prop := ∀ (s : Shared) (H : Hp) (C : Addr) (cl : List (Str × Addr)) (fp : List Addr), P (X.blk s H scope (compEnvC scope cl C X.env) fp)
def bG (X : Cx) (scope : Scope) (tg : Expr) : TG := fun v σ H Q => Blk X scope fun Y => wG Y tg v σ H Q
def bT (X : Cx) (scope : Scope) (c : Expr) : TT := fun σ H Q => Blk X scope fun Y => wT Y c σ H Q
def bE (X : Cx) (scope : Scope) (e : Expr) : TE := fun σ H Q => Blk X scope fun Y => wE Y e σ H Q
theorem ref_bG (h : Blk X scope fun Y => TrG Y tg is g) : RefG X (bG X scope tg) is g := fun E ρ G σ H v d Q k R rp lk hf s H0 C cl fp => (h s H0 C cl fp).w E ρ G σ H v d Q k R rp lk hf
theorem ref_bT {c : Expr} (h : Blk X scope fun Y => TrT Y c ft) (E : Ent) (ρ : S) (G : Hp) (σ : L2.St) (H : Hp) (Q : Bool → Hp → Prop) (k : Bool → S → Prop) (R : Rel X.K E ρ G σ H) (lk : LkT X.K E G σ k Q) (hf : ft ρ k noX) : bT X scope c σ H Q :=
  fun s H0 C cl fp => h s H0 C cl fp _ E ρ G σ H Q k noX ⟨takes0, fun z => (no_self z).elim⟩ R lkx0 lk hf
theorem ref_bE (h : Blk X scope fun Y => TrE Y elt fe) (E : Ent) (ρ : S) (G : Hp) (σ : L2.St) (H : Hp) (Q : VK) (k : KE) (R : Rel X.K E ρ G σ H) (lk : LkE X.K E G σ k Q) (hf : fe ρ k noX) : bE X scope elt σ H Q :=
  fun s H0 C cl fp => h s H0 C cl fp _ E ρ G σ H Q k noX ⟨takes0, fun z => (no_self z).elim⟩ R lkx0 lk hf
theorem ref_yes (E : Ent) (ρ : S) (G : Hp) (σ : L2.St) (H : Hp) (Q : Bool → Hp → Prop) (k : Bool → S → Prop) (R : Rel X.K E ρ G σ H) (lk : LkT X.K E G σ k Q) (hf : fYes ρ k noX) : tYes σ H Q := lk true ρ G H (Ex.refl G) R hf
/-- [elt for tg in iter] -/
theorem xe_lc (hi : TrI X tg iter fi) (hc : X.calm = true) (hN : X.N.Nodup) (ok : BlkOk X.N X.env.scope scope own) (hg : Blk X scope fun Y => TrG Y tg is g) (he : Blk X scope fun Y => TrE Y elt fe) (hin : ∀ i ∈ is, i ∈ own.map (·.2) := by decide)
    (hs : ∀ x, foldedSetIterable iter X.env x = pure x := by intro _; rfl) : TrE X (.ListComp elt [⟨tg, iter, [], 0⟩] scope pos) (fLc (own.map (·.2)) fi g fYes fe) := by
  obtain ⟨wi, pi, ri⟩ := hi
  exact .of (pe_lc hc hN pi ok (g := bG X scope tg) (tt := tYes) (te := bE X scope elt) (fun s H C cl fp => ⟨fun pins s1 σ H1 v u Q I r h => h s H C cl fp pins s1 u I r⟩) (fun _ _ _ _ _ => pts_nil) (fun s H C cl fp => ⟨fun pins s1 σ H1 Q I h => h s H C cl fp pins s1 I⟩) hs)
    (ref_lc ri (ref_bG hg) hin ref_yes (ref_bE he))
/-- [elt for tg in iter if c] -/
theorem xe_lcif {c : Expr} (hi : TrI X tg iter fi) (hc : X.calm = true) (hN : X.N.Nodup) (ok : BlkOk X.N X.env.scope scope own) (hg : Blk X scope fun Y => TrG Y tg is g) (ht : Blk X scope fun Y => TrT Y c ft) (he : Blk X scope fun Y => TrE Y elt fe) (hin : ∀ i ∈ is, i ∈ own.map (·.2) := by decide)
    (hs : ∀ x, foldedSetIterable iter X.env x = pure x := by intro _; rfl) : TrE X (.ListComp elt [⟨tg, iter, [c], 0⟩] scope pos) (fLc (own.map (·.2)) fi g ft fe) := by
  obtain ⟨wi, pi, ri⟩ := hi
  exact .of (pe_lc hc hN pi ok (g := bG X scope tg) (tt := bT X scope c) (te := bE X scope elt) (fun s H C cl fp => ⟨fun pins s1 σ H1 v u Q I r h => h s H C cl fp pins s1 u I r⟩) (fun s H C cl fp => pts_one ⟨fun pins s1 σ H1 Q I h => h s H C cl fp pins s1 I⟩) (fun s H C cl fp => ⟨fun pins s1 σ H1 Q I h => h s H C cl fp pins s1 I⟩) hs)
    (ref_lc ri (ref_bG hg) hin (ref_bT ht) (ref_bE he))
/-- y = [elt for tg in iter] -/
theorem ts_lc (i : Nat) {y : Str} {py spos : Pos} (hi : TrI X tg iter fi) (hc : X.calm = true) (hN : X.N.Nodup) (hy : X.N[i]? = some y) (hyl : X.env.scope.names.lookup y = some .local) (hsw : swapsWith (.ListComp elt [⟨tg, iter, [], 0⟩] scope pos) (some (.Name y py)) spos.line X.env = pure true)
    (ok : BlkOk X.N X.env.scope scope own) (hg : Blk X scope fun Y => TrG Y tg is g) (he : Blk X scope fun Y => TrE Y elt fe) (hin : ∀ i ∈ is, i ∈ own.map (·.2) := by decide) (hs : ∀ x, foldedSetIterable iter X.env x = pure x := by intro _; rfl) :
    TrS X (.Assign [.Name y py] (.ListComp elt [⟨tg, iter, [], 0⟩] scope pos) spos) (sSet i (fLc (own.map (·.2)) fi g fYes fe)) := by
  obtain ⟨wi, pi, ri⟩ := hi
  exact .of (ps_setLc hc hN hy hyl hsw pi ok (g := bG X scope tg) (tt := tYes) (te := bE X scope elt) (fun s H C cl fp => ⟨fun pins s1 σ H1 v u Q I r h => h s H C cl fp pins s1 u I r⟩) (fun _ _ _ _ _ => pts_nil) (fun s H C cl fp => ⟨fun pins s1 σ H1 Q I h => h s H C cl fp pins s1 I⟩) hs)
    (ref_set (ref_lc ri (ref_bG hg) hin ref_yes (ref_bE he)))
theorem ts_lcif (i : Nat) {c : Expr} {y : Str} {py spos : Pos} (hi : TrI X tg iter fi) (hc : X.calm = true) (hN : X.N.Nodup) (hy : X.N[i]? = some y) (hyl : X.env.scope.names.lookup y = some .local) (hsw : swapsWith (.ListComp elt [⟨tg, iter, [c], 0⟩] scope pos) (some (.Name y py)) spos.line X.env = pure true)
    (ok : BlkOk X.N X.env.scope scope own) (hg : Blk X scope fun Y => TrG Y tg is g) (ht : Blk X scope fun Y => TrT Y c ft) (he : Blk X scope fun Y => TrE Y elt fe) (hin : ∀ i ∈ is, i ∈ own.map (·.2) := by decide) (hs : ∀ x, foldedSetIterable iter X.env x = pure x := by intro _; rfl) :
    TrS X (.Assign [.Name y py] (.ListComp elt [⟨tg, iter, [c], 0⟩] scope pos) spos) (sSet i (fLc (own.map (·.2)) fi g ft fe)) := by
  obtain ⟨wi, pi, ri⟩ := hi
  exact .of (ps_setLc hc hN hy hyl hsw pi ok (g := bG X scope tg) (tt := bT X scope c) (te := bE X scope elt) (fun s H C cl fp => ⟨fun pins s1 σ H1 v u Q I r h => h s H C cl fp pins s1 u I r⟩) (fun s H C cl fp => pts_one ⟨fun pins s1 σ H1 Q I h => h s H C cl fp pins s1 I⟩) (fun s H C cl fp => ⟨fun pins s1 σ H1 Q I h => h s H C cl fp pins s1 I⟩) hs)
    (ref_set (ref_lc ri (ref_bG hg) hin (ref_bT ht) (ref_bE he)))
end
end Tr
set_option Elab.async false
set_option linter.all false
set_option maxRecDepth 100000
namespace Tr
open PySem PySem.Spec PyProof.Rows L2 Evl Kc Kz Kx
abbrev FD := List AV → (AV → Prop) → (Exn → Prop) → Prop
def potPs : List AV → List V → List Addr
  | .pot _ :: as, .ref p :: vs => p :: potPs as vs
  | _ :: as, _ :: vs => potPs as vs
  | _, _ => []
theorem mem_potPs {p : Addr} : ∀ {as : List AV} {vs : List V}, p ∈ potPs as vs ↔ ∃ (j : Nat) (b : Bool), as[j]? = some (.pot b) ∧ vs[j]? = some (.ref p) := by
  intro as
  induction as with
  | nil => intro vs; cases vs <;> simp [potPs]
  | cons a as ih =>
    intro vs
    cases vs with
    | nil => cases a <;> simp [potPs]
    | cons v vs =>
      have step : (∃ (j : Nat) (b : Bool), (a :: as)[j]? = some (.pot b) ∧ (v :: vs)[j]? = some (.ref p)) ↔ ((∃ b, a = .pot b) ∧ v = .ref p) ∨ ∃ (j : Nat) (b : Bool), as[j]? = some (.pot b) ∧ vs[j]? = some (.ref p) := by
        constructor
        · rintro ⟨j, b, h1, h2⟩
          cases j with
          | zero => exact .inl ⟨⟨b, Option.some.inj h1⟩, Option.some.inj h2⟩
          | succ j => exact .inr ⟨j, b, h1, h2⟩
        · rintro (⟨⟨b, rfl⟩, rfl⟩ | ⟨j, b, h1, h2⟩)
          · exact ⟨0, b, rfl, rfl⟩
          · exact ⟨j + 1, b, h1, h2⟩
      rw [step, ← ih]
      cases a with
      | pot b =>
        cases v with
        | ref q =>
          show p ∈ q :: potPs as vs ↔ _
          rw [List.mem_cons]
          constructor
          · rintro (rfl | h)
            · exact .inl ⟨⟨b, rfl⟩, rfl⟩
            · exact .inr h
          · rintro (⟨_, h⟩ | h)
            · cases h; exact .inl rfl
            · exact .inr h
        | _ =>
          show p ∈ potPs as vs ↔ _
          exact ⟨.inr, fun h => h.elim (fun z => nomatch z.2) id⟩
      | _ =>
        show p ∈ potPs as vs ↔ _
        exact ⟨.inr, fun h => h.elim (fun z => by obtain ⟨⟨b, z⟩, _⟩ := z; cases z) id⟩
structure ArgOk (K : PySem.W.Frag) (G H : Hp) (as : List AV) (vs : List V) : Prop where
  hold : Paired (fun a v => Hold K G H a v) as vs
  pots : ∀ a ∈ as, a.isOwn = true → a = .pot true
  apart : ∀ (i j : Nat) (a b : AV) (v : V), i ≠ j → as[i]? = some a → as[j]? = some b → a.isOwn = true → b.isOwn = true → vs[i]? = some v → vs[j]? = some v → False
  gno : ∀ b qs, G b ≠ some (.tbl qs)
structure Post (K : PySem.W.Frag) (G H : Hp) (ps : List Addr) (G' H' : Hp) : Prop where
  sub : Ex G' H'
  grow : Ex G G'
  new : ∀ b o, G' b = some o → G b = some o ∨ H b = none
  but : Kept (TN K) ps H H'
  pots : ∀ p ∈ ps, Pot H' p
  gno : ∀ b qs, G' b ≠ some (.tbl qs)
def RRes (K : PySem.W.Frag) (H G' H' : Hp) (r : AV) (v : V) : Prop := (r.isOwn = false ∧ Hold K G' H' r v) ∨ (r.isOwn = true ∧ r.isPar = false ∧ ∃ p, v = .ref p ∧ G' p = none ∧ Stands K G' H' p r ∧ H p = none)
/-- the promise of a def by trees -/
def spT (K : PySem.W.Frag) (n : Nat) (F : FD) : Sp := fun vs H Q EX => ∃ (G : Hp) (as : List AV) (k : AV → Prop) (x : Exn → Prop), as.length = n ∧ Ex G H ∧ ArgOk K G H as vs ∧ F as k x ∧
  (∀ r G' v H', Post K G H (potPs as vs) G' H' → RRes K H G' H' r v → k r → Q v H') ∧ (∀ c G' dd H', Post K G H (potPs as vs) G' H' → XRes K G' c dd → x c → EX (.ref c.cls) (some dd) H')
theorem paired_get {α β : Type} {P : α → β → Prop} : ∀ {as : List α} {bs : List β} {i : Nat} {a : α}, Paired P as bs → as[i]? = some a → ∃ b, bs[i]? = some b ∧ P a b
  | _, _, i, _, .nil, e => by cases i <;> cases e
  | _, _, 0, _, .cons h _, e => by cases Option.some.inj e; exact ⟨_, rfl, h⟩
  | _, _, i + 1, _, .cons _ t, e => paired_get (i := i) t e
def rtK (a : AV) (ρ : S) (k : AV → Prop) : Prop :=
  match a with
  | .at i => match ρ[i]? with
    | some (some (.own false d)) => k (.own false d)
    | some (some (.pot false)) => k (.pot false)
    | _ => False
  | .own true _ => False
  | .pot true => False
  | a => k a
def start0 (n : Nat) (as : List AV) : S := as.map some ++ List.replicate (n - as.length) none
section
variable {K : PySem.W.Frag} {G H : Hp} {as : List AV} {vs : List V}
theorem start_get {n : Nat} {i : Nat} {a : AV} (h : (start0 n as)[i]? = some (some a)) : as[i]? = some a := by
  unfold start0 at h
  rw [List.getElem?_append] at h
  split at h
  · rw [List.getElem?_map] at h
    cases e : as[i]? with
    | none => exact absurd h (by rw [e]; intro z; cases z)
    | some b => rw [e] at h; cases h; rfl
  · rw [List.getElem?_replicate] at h
    split at h <;> cases h
theorem start_v {N : List Str} {i : Nat} {v : V} (h : vs[i]? = some v) : (start N vs)[i]? = some (some v) := by
  have hi := (List.getElem?_eq_some_iff.mp h).1
  unfold L2.start
  rw [List.getElem?_append, if_pos (by rw [List.length_map]; exact hi), List.getElem?_map, h]
  rfl
theorem rel_start {N : List Str} (e : Ex G H) (ok : ArgOk K G H as vs) (hl : vs.length ≤ N.length) : Rel K ⟨vs, potPs as vs, H, G, fun _ => none⟩ (start0 N.length as) G (start N vs) H := by
  have pl : as.length = vs.length := Paired.length ok.hold
  have at_ : ∀ {i : Nat} {a : AV}, (start0 N.length as)[i]? = some (some a) → as[i]? = some a ∧ ∃ v, vs[i]? = some v ∧ (start N vs)[i]? = some (some v) ∧ Hold K G H a v := fun {i a} h => by
    have h1 := start_get h
    obtain ⟨v, h2, h3⟩ := paired_get ok.hold h1
    exact ⟨h1, v, h2, start_v h2, h3⟩
  refine ⟨e, ?_, fun i a h => ?_, fun i j a b v n h1 h2 o1 o2 e1 e2 => ?_, fun i a p h o z => ?_, fun i a h o => ?_, Ex.refl _, fun b o h => .inl h, .refl, fun p hp => ?_, fun p hp => ?_, (fun b o h => nomatch h), (fun b o h => nomatch h), ok.gno⟩
  · unfold start0 L2.start
    rw [List.length_append, List.length_append, List.length_map, List.length_map, List.length_replicate, List.length_replicate, pl]
  · obtain ⟨_, v, _, h2, h3⟩ := at_ h
    exact ⟨v, h2, h3⟩
  · obtain ⟨a1, v1, w1, s1, _⟩ := at_ h1
    obtain ⟨a2, v2, w2, s2, _⟩ := at_ h2
    rw [s1] at e1
    rw [s2] at e2
    cases e1
    cases e2
    exact ok.apart i j a b v n a1 a2 o1 o2 w1 w2
  · obtain ⟨a1, v1, w1, s1, _⟩ := at_ h
    rw [s1] at z
    cases z
    have := ok.pots a (List.mem_of_getElem? a1) o
    subst this
    exact .inl ⟨rfl, mem_potPs.mpr ⟨i, true, a1, w1⟩⟩
  · obtain ⟨a1, v1, w1, s1, _⟩ := at_ h
    show (start N vs)[i]? = (vs[i]?).map some
    rw [s1, w1]
    rfl
  · obtain ⟨j, b, h1, h2⟩ := mem_potPs.mp hp
    obtain ⟨v, h3, h4⟩ := paired_get ok.hold h1
    rw [h2] at h3
    cases h3
    obtain ⟨q, e1, _, st⟩ := h4
    cases e1
    exact st
  · obtain ⟨j, b, h1, h2⟩ := mem_potPs.mp hp
    obtain ⟨v, h3, h4⟩ := paired_get ok.hold h1
    rw [h2] at h3
    cases h3
    obtain ⟨q, e1, _, st⟩ := h4
    cases e1
    exact pot_some st
theorem Rel.post {ρ' : S} {G' H' : Hp} {σ' : L2.St} {ps : List Addr} {F : Hp} (r : Rel K ⟨vs, ps, H, G, F⟩ ρ' G' σ' H') : Post K G H ps G' H' := ⟨r.sub, r.grow, r.new, r.but, r.live, r.gno⟩
theorem rtK_of {E : Ent} {ρ : S} {G' H' : Hp} {σ : L2.St} {a : AV} {v : V} {k : AV → Prop} (r : Rel K E ρ G' σ H') (q : Res K E ρ G' σ H' a v) (h : rtK a ρ k) : ∃ b, RRes K E.H0 G' H' b v ∧ k b := by
  rcases q with ⟨i, rfl, e⟩ | ⟨no, hh⟩ | ⟨yo, np, p, rfl, gp, st, h0, ls⟩
  · unfold rtK at h
    dsimp only at h
    split at h
    · rename_i d e1
      obtain ⟨u, e2, hh⟩ := r.slot i _ e1
      rw [e] at e2
      cases e2
      obtain ⟨p, rfl, gp, st⟩ := hh
      rcases r.mine i _ p e1 rfl e with y | y
      · cases y.1
      · exact ⟨_, .inr ⟨rfl, rfl, p, rfl, gp, st, y.2⟩, h⟩
    · rename_i e1
      obtain ⟨u, e2, hh⟩ := r.slot i _ e1
      rw [e] at e2
      cases e2
      obtain ⟨p, rfl, gp, st⟩ := hh
      rcases r.mine i _ p e1 rfl e with y | y
      · cases y.1
      · exact ⟨_, .inr ⟨rfl, rfl, p, rfl, gp, st, y.2⟩, h⟩
    · exact h.elim
  · refine ⟨a, .inl ⟨no, hh⟩, ?_⟩
    cases a <;> first | exact h | exact hh.elim | cases no
  · refine ⟨a, .inr ⟨yo, np, p, rfl, gp, st, h0.1⟩, ?_⟩
    cases a with
    | own b d => cases b <;> first | exact h | cases np
    | pot b => cases b <;> first | exact h | cases np
    | _ => cases yo
end
/-- all but the tables -/
def noTab (H : Hp) : Hp := fun b => match H b with
  | some (.tbl _) => none
  | o => o
theorem noTab_ex {H : Hp} : Ex (noTab H) H := fun b o h => by
  unfold noTab at h
  split at h
  · cases h
  · exact h
theorem noTab_gno {H : Hp} : ∀ b qs, noTab H b ≠ some (.tbl qs) := fun b qs h => by
  unfold noTab at h
  split at h
  · cases h
  · rename_i n
    exact n _ h
theorem noTab_at {H : Hp} {b : Addr} {o : HO} (h : H b = some o) (n : ∀ qs, o ≠ .tbl qs) : noTab H b = some o := by
  unfold noTab
  split
  · rename_i qs e
    rw [h] at e
    exact absurd (Option.some.inj e) (n _)
  · exact h
theorem noTab_sql {K : PySem.W.Frag} {H : Hp} {a : Addr} {xs : List V} (h : SqL K H a xs) : SqL K (noTab H) a xs := by
  rcases h with (z | ⟨u, z⟩) | z
  · exact .inl (.inl (noTab_at z nofun))
  · exact .inl (.inr ⟨u, noTab_at z nofun⟩)
  · exact .inr z
section
variable {K : PySem.W.Frag} {mg : Str → Option Value} {P : Program} {base : Heap} {w : World}
/-- a def keeps its promise by trees -/
theorem fnT {nm qual : Str} {st : Stmt} {f : Addr} {fd : FuncData} {N ps : List Str} {k : Nat} {F : FD} {fb : FS} (Fn : Fun K nm qual st f fd) (S : FnScope N ps (defScope st))
    (body : ∀ (cdv : Value) (A : Around) (outer : List Env) (s : Shared) (H : Hp) (E : XK), A.guards = some [] → Room k (A.deeper (envOfC qual (defScope st) s.heap.objs.size f cdv)) → TrB (cxOf (L2.CX P w) P w K mg base N qual (defScope st) f cdv A outer s H E) (defBody st) fb)
    (imp : ∀ as k x, as.length = ps.length → F as k x → fb (start0 N.length as) { nx := fun _ => k (.dat .none), rt := fun a ρ => rtK a ρ k } fun c _ => x c) :
    FnG P w K mg base (L2.CX P w) (k + 1) f fd ps (spT K ps.length F) := by
  obtain ⟨oc, od, kV, doc, pm, an, cdv, ct, osl, rfl, lk, cin⟩ := Fn.ex
  have pln : ps.length ≤ N.length := by
    have := congrArg List.length S.pre
    rw [List.length_take] at this
    omega
  refine fnG_of lk cin S (fun vs H Q E h => ?_) fun A outer s H vs Q E gd room want => ⟨_, pb_w, ?_⟩
  · obtain ⟨G, as, k, x, h1, _, h2, _⟩ := h
    rw [← h1]
    exact (Paired.length h2.hold).symm
  · obtain ⟨G, as, k, x, h1, h2, h3, h4, h5, h6⟩ := want
    have vl : vs.length ≤ N.length := by
      rw [← Paired.length h3.hold, h1]
      exact pln
    refine body cdv A outer s H E gd room (fun cls d _ H => E cls d H) ⟨vs, potPs as vs, H, G, fun _ => none⟩ _ G _ H _ { nx := fun _ => k (.dat .none), rt := fun a ρ => rtK a ρ k } (fun c _ => x c) ⟨takes_of rfl rfl rfl rfl, fun _ _ _ _ t => t⟩ (rel_start h2 h3 vl) (fun c ρ' G' σ' dd H' R q hx => ?_) ⟨fun ρ' G' σ' H' _ R hn => ?_, fun a ρ' G' σ' v H' _ R q hr => ?_, fun ρ' G' σ' H' _ _ z => z.elim, fun ρ' G' σ' H' _ _ z => z.elim⟩ (imp as k x h1 h4)
    · exact h6 c G' dd H' R.post q hx
    · exact h5 (.dat .none) G' .non H' R.post (.inl ⟨rfl, .non⟩) hn
    · obtain ⟨b, rb, hk⟩ := rtK_of R q hr
      exact h5 b G' v H' R.post rb hk
end
end Tr
set_option Elab.async false
set_option linter.all false
set_option maxRecDepth 100000
namespace Tr
open PySem PySem.Spec PyProof.Rows L2 Evl Kc Kz Kx
/-- how a value is handed over: a pot with the right to draw, an owned list to be read only -/
def conv (ρ : S) (a : AV) : Option (AV × Bool) :=
  match a with
  | .at i => match ρ[i]? with
    | some (some (.own _ d)) => some (.dat d, true)
    | some (some (.pot _)) => some (.pot true, false)
    | _ => none
  | .own _ _ => none
  | .pot _ => none
  | a => some (a, false)
def argK (ρ : S) : List AV → (List AV → Bool → Prop) → Prop
  | [], k => k [] false
  | a :: as, k => match conv ρ a with
    | some (b, w) => argK ρ as fun bs v => k (b :: bs) (w || v)
    | none => False
mutual
/-- a tree without lists and dicts -/
def tupD : D → Bool
  | .tuple ds => tupDs ds
  | .list _ => false
  | .dict _ => false
  | _ => true
def tupDs : List D → Bool
  | [] => true
  | d :: ds => tupD d && tupDs ds
end
def flAV : AV → Bool
  | .dat d => tupD d
  | .own _ (.list ds) => tupDs ds
  | .raw _ => true
  | _ => false
def flX (c : Exn) : Bool := c.fs.all fun p => flatD p.2
def fCall (n : Nat) (F : FD) (fr : FA) : FE := fun ρ k x => fr ρ (fun as ρ1 => argK ρ1 as fun bs w => (bs.filter AV.isOwn).length ≤ 1 ∧ bs.length = n ∧ F bs (fun r => (w = false ∨ flAV r = true) ∧ k r ρ1) (fun c => (w = false ∨ flX c = true) ∧ x c ρ1)) x
theorem flat_any {K : PySem.W.Frag} {G G' : Hp} {v : V} {d : D} (h : Rp K G v d) (f : flatD d = true) : Rp K G' v d := by
  cases h <;> first
    | exact .non
    | exact .bl _
    | exact .int _
    | exact .str _
    | cases f
theorem flds_any {K : PySem.W.Frag} {G G' : Hp} : ∀ {v : List (Str × V)} {d : List (Str × D)}, Flds K G v d → (d.all fun p => flatD p.2) = true → Flds K G' v d
  | _, _, .nil, _ => .nil
  | _, _, .cons h t, f => by
    simp only [List.all_cons, Bool.and_eq_true] at f
    exact .cons ⟨h.1, flat_any h.2 f.1⟩ (flds_any t f.2)
/-- the addresses that are lent -/
def Lent (ρ : S) (σ : L2.St) (as : List AV) (q : Addr) : Prop := ∃ (i : Nat) (b : Bool) (d : D), AV.at i ∈ as ∧ ρ[i]? = some (some (.own b d)) ∧ σ[i]? = some (some (.ref q))
open Classical in
noncomputable def lend (L : Addr → Prop) (G H : Hp) : Hp := fun q => if L q then H q else G q
open Classical in
noncomputable def keepOff (L : Addr → Prop) (G : Hp) : Hp := fun q => if L q then none else G q
theorem off_in {G : Hp} {L : Addr → Prop} {q : Addr} (h : L q) : keepOff L G q = none := by unfold keepOff; rw [if_pos h]
theorem off_out {G : Hp} {L : Addr → Prop} {q : Addr} (h : ¬ L q) : keepOff L G q = G q := by unfold keepOff; rw [if_neg h]
theorem off_rd {G : Hp} {L : Addr → Prop} {q : Addr} {o : HO} (nt : ¬ L q) (h : Rd G q o) : Rd (keepOff L G) q o := by
  rcases h with h | h
  · exact .inl ((off_out nt).trans h)
  · exact .inr (h.elim fun u e => ⟨u, (off_out nt).trans e⟩)
mutual
theorem tup_off {K : PySem.W.Frag} {G : Hp} {L : Addr → Prop} (nt : ∀ q xs, L q → ¬ Rd G q (.tup xs)) : ∀ {v : V} {d : D}, Rp K G v d → tupD d = true → Rp K (keepOff L G) v d
  | _, _, .non, _ => .non
  | _, _, .bl b, _ => .bl b
  | _, _, .int i, _ => .int i
  | _, _, .str x, _ => .str x
  | _, _, .tup h a, f => .tup (by
      rcases h with h | h
      · exact .inl (off_rd (fun l => nt _ _ l h) h)
      · exact .inr h) (tups_off nt a (by simpa only [tupD] using f))
  | _, _, .lst _ _, f => by simp only [tupD] at f; cases f
  | _, _, .dct _ _, f => by simp only [tupD] at f; cases f
theorem tups_off {K : PySem.W.Frag} {G : Hp} {L : Addr → Prop} (nt : ∀ q xs, L q → ¬ Rd G q (.tup xs)) : ∀ {v : List V} {d : List D}, Rps K G v d → tupDs d = true → Rps K (keepOff L G) v d
  | _, _, .nil, _ => .nil
  | _, _, .cons h t, f => by
    simp only [tupDs, Bool.and_eq_true] at f
    exact .cons (tup_off nt h f.1) (tups_off nt t f.2)
end
section
variable {K : PySem.W.Frag} {E : Ent} {ρ : S} {G H : Hp} {σ : L2.St} {as bs : List AV} {vs : List V}
theorem lend_in {L : Addr → Prop} {q : Addr} (h : L q) : lend L G H q = H q := by unfold lend; rw [if_pos h]
theorem lend_out {L : Addr → Prop} {q : Addr} (h : ¬ L q) : lend L G H q = G q := by unfold lend; rw [if_neg h]
theorem Lent.own (R : Rel K E ρ G σ H) {q : Addr} (h : Lent ρ σ as q) : ∃ (i : Nat) (b : Bool) (d : D), AV.at i ∈ as ∧ ρ[i]? = some (some (.own b d)) ∧ σ[i]? = some (some (.ref q)) ∧ G q = none ∧ Own K G H q d := by
  obtain ⟨i, b, d, h1, h2, h3⟩ := h
  obtain ⟨v, e, hh⟩ := R.slot i _ h2
  rw [h3] at e
  cases e
  obtain ⟨p, e, g, st⟩ := hh
  cases e
  exact ⟨i, b, d, h1, h2, h3, g, st⟩
theorem lend_ex (R : Rel K E ρ G σ H) : Ex G (lend (Lent ρ σ as) G H) := fun q o h => by
  by_cases l : Lent ρ σ as q
  · obtain ⟨_, _, _, _, _, _, g, _⟩ := l.own R
    rw [g] at h
    cases h
  · rw [lend_out l]
    exact h
theorem lend_sub (R : Rel K E ρ G σ H) : Ex (lend (Lent ρ σ as) G H) H := fun q o h => by
  by_cases l : Lent ρ σ as q
  · rw [lend_in l] at h
    exact h
  · rw [lend_out l] at h
    exact R.sub q o h
/-- what argK hands over -/
theorem argK_of (R : Rel K E ρ G σ H) (L : Addr → Prop) : ∀ {as : List AV} {vs : List V} {k : List AV → Bool → Prop}, (∀ q, Lent ρ σ as q → L q) → (∀ q, L q → ∃ (i : Nat) (b : Bool) (d : D), ρ[i]? = some (some (.own b d)) ∧ σ[i]? = some (some (.ref q))) → Ex G (lend L G H) →
    Paired (fun a v => a.isOwn = false ∧ Res K E ρ G σ H a v) as vs → argK ρ as k → ∃ (bs : List AV) (w : Bool), Paired (fun a v => Hold K (lend L G H) H a v) bs vs ∧ (∀ a ∈ bs, a.isOwn = true → a = .pot true) ∧
      (∀ (j : Nat), bs[j]? = some (.pot true) → ∃ (i : Nat) (b : Bool), as[j]? = some (.at i) ∧ ρ[i]? = some (some (.pot b)) ∧ ∀ v, vs[j]? = some v → σ[i]? = some (some v)) ∧ (w = false → ∀ q, ¬ Lent ρ σ as q) ∧ k bs w
  | [], _, k, _, _, _, .nil, h => ⟨[], false, .nil, (fun a z => nomatch z), (fun j z => by cases j <;> cases z), (fun _ q z => by obtain ⟨i, b, d, z, _⟩ := z; cases z), h⟩
  | a :: as, v :: vs, k, hL, hO, hE, .cons q t, h => by
    have sub : ∀ q, Lent ρ σ as q → L q := fun q z => by
      obtain ⟨i, b, d, z1, z2, z3⟩ := z
      exact hL q ⟨i, b, d, List.mem_cons_of_mem _ z1, z2, z3⟩
    have go : ∀ {b : AV} {w0 : Bool}, Hold K (lend L G H) H b v → (b.isOwn = true → b = .pot true) → (b = .pot true → ∃ (i : Nat) (c : Bool), a = .at i ∧ ρ[i]? = some (some (.pot c)) ∧ σ[i]? = some (some v)) → (w0 = false → ∀ (i : Nat) (c : Bool) (d : D), a = .at i → ρ[i]? = some (some (.own c d)) → False) →
        argK ρ as (fun bs v => k (b :: bs) (w0 || v)) → ∃ (bs : List AV) (w : Bool), Paired (fun a v => Hold K (lend L G H) H a v) bs (v :: vs) ∧ (∀ a ∈ bs, a.isOwn = true → a = .pot true) ∧
      (∀ (j : Nat), bs[j]? = some (.pot true) → ∃ (i : Nat) (b : Bool), (a :: as)[j]? = some (.at i) ∧ ρ[i]? = some (some (.pot b)) ∧ ∀ u, (v :: vs)[j]? = some u → σ[i]? = some (some u)) ∧ (w = false → ∀ q, ¬ Lent ρ σ (a :: as) q) ∧ k bs w := fun {b w0} hb h1 h2 h3 h4 => by
      obtain ⟨bs, w, p1, p2, p3, p4, hk⟩ := argK_of R L sub hO hE t h4
      refine ⟨b :: bs, w0 || w, .cons hb p1, fun c hc oc => ?_, fun j hj => ?_, fun hw q z => ?_, hk⟩
      · obtain rfl | hc := List.mem_cons.mp hc
        · exact h1 oc
        · exact p2 c hc oc
      · cases j with
        | zero =>
          obtain ⟨i, c, e1, e2, e3⟩ := h2 (Option.some.inj hj)
          exact ⟨i, c, by rw [e1]; rfl, e2, fun u hu => by cases Option.some.inj hu; exact e3⟩
        | succ j => exact p3 j hj
      · rw [Bool.or_eq_false_iff] at hw
        obtain ⟨i, c, d, z1, z2, z3⟩ := z
        rcases List.mem_cons.mp z1 with z1 | z1
        · exact h3 hw.1 i c d z1.symm z2
        · exact p4 hw.2 q ⟨i, c, d, z1, z2, z3⟩
    unfold argK at h
    obtain ⟨no, q⟩ := q
    have plain : ∀ {b : AV}, a = b → (∀ i, b ≠ .at i) → argK ρ as (fun bs v => k (b :: bs) (false || v)) → _ := fun {b} e na h => by
      subst e
      refine go (b := a) (w0 := false) ?_ (fun z => by rw [no] at z; cases z) (fun z => by rw [z] at no; cases no) (fun _ i c d z => absurd z (na i)) h
      rcases q with ⟨i, z, _⟩ | ⟨_, hh⟩ | ⟨z, _⟩
      · exact absurd z (na i)
      · exact hh.still hE no
      · rw [no] at z; cases z
    cases a with
    | «at» i =>
      have e : σ[i]? = some (some v) := by
        rcases q with ⟨i', z, e⟩ | ⟨_, hh⟩ | ⟨z, _⟩
        · cases z; exact e
        · exact hh.elim
        · cases z
      unfold conv at h
      dsimp only at h
      cases eo : ρ[i]? with
      | none => rw [eo] at h; exact h.elim
      | some oa =>
        rw [eo] at h
        cases oa with
        | none => exact h.elim
        | some av =>
          obtain ⟨u, e2, hh⟩ := R.slot i _ eo
          rw [e] at e2
          cases e2
          cases av with
          | own b d =>
            obtain ⟨p, rfl, g, st⟩ := hh
            have l : L p := hL p ⟨i, b, d, List.mem_cons_self, eo, e⟩
            refine go (b := .dat d) (w0 := true) ?_ (fun z => nomatch z) (fun z => nomatch z) (fun z => nomatch z) h
            have st : Own K G H p d := st
            cases d with
            | list ds => obtain ⟨xs, a1, a2⟩ := st; exact .lst ((lend_in l).trans a1) (a2.mono hE)
            | dict es => obtain ⟨xs, a1, a2⟩ := st; exact .dct ((lend_in l).trans a1) (a2.mono hE)
            | _ => exact st.elim
          | pot b =>
            obtain ⟨p, rfl, g, st⟩ := hh
            refine go (b := .pot true) (w0 := false) ⟨p, rfl, ?_, st⟩ (fun _ => rfl) (fun _ => ⟨i, b, rfl, eo, e⟩) (fun _ i' c d z z2 => ?_) h
            · refine (lend_out fun l => ?_).trans g
              obtain ⟨i', b', d', z1, z2⟩ := hO p l
              have ne : i ≠ i' := fun z => by rw [z, z1] at eo; cases eo
              exact R.apart i i' _ _ _ ne eo z1 rfl rfl e z2
            · cases z
              rw [eo] at z2
              cases z2
          | _ => exact h.elim
    | dat d => exact plain rfl (fun _ => nofun) h
    | obj C fs => exact plain rfl (fun _ => nofun) h
    | raw u => exact plain rfl (fun _ => nofun) h
    | scr ns => exact plain rfl (fun _ => nofun) h
    | exn a C dd fs => exact plain rfl (fun _ => nofun) h
    | clo f Gc => exact plain rfl (fun _ => nofun) h
    | own b d => cases no
    | pot b => cases no
theorem one_own {bs : List AV} (h : (bs.filter AV.isOwn).length ≤ 1) : ∀ (i j : Nat) (a b : AV), i ≠ j → bs[i]? = some a → bs[j]? = some b → a.isOwn = true → b.isOwn = true → False := by
  induction bs with
  | nil => intro i j a b _ e; cases i <;> cases e
  | cons c bs ih =>
    intro i j a b n e1 e2 o1 o2
    have big : ∀ {m : Nat} {d : AV}, bs[m]? = some d → d.isOwn = true → 1 ≤ (bs.filter AV.isOwn).length := fun {m d} e o => List.length_pos_of_mem (List.mem_filter.mpr ⟨List.mem_of_getElem? e, o⟩)
    cases i with
    | zero =>
      cases j with
      | zero => exact n rfl
      | succ j =>
        cases Option.some.inj e1
        rw [List.filter_cons_of_pos o1, List.length_cons] at h
        have := big (m := j) e2 o2
        omega
    | succ i =>
      cases j with
      | zero =>
        cases Option.some.inj e2
        rw [List.filter_cons_of_pos o2, List.length_cons] at h
        have := big (m := i) e1 o1
        omega
      | succ j =>
        refine ih ?_ i j a b (fun z => n (by rw [z])) e1 e2 o1 o2
        rw [List.filter_cons] at h
        split at h
        · rw [List.length_cons] at h; omega
        · exact h
end
section
variable {X : Cx} {k n : Nat} {f : Addr} {fd : FuncData} {ps : List Str} {F : FD} {x : Str} {p pos : Pos} {e : Expr} {es : List Expr} {fr : FA}
/-- what a def's promise gives to its caller -/
theorem after_call {K : PySem.W.Frag} {E : Ent} {ρ : S} {G H : Hp} {σ : L2.St} {as bs : List AV} {vs : List V} {G' H' : Hp} (R : Rel K E ρ G σ H)
    (hp : ∀ (j : Nat), bs[j]? = some (.pot true) → ∃ (i : Nat) (b : Bool), as[j]? = some (.at i) ∧ ρ[i]? = some (some (.pot b)) ∧ ∀ v, vs[j]? = some v → σ[i]? = some (some v)) (hpt : ∀ a ∈ bs, a.isOwn = true → a = .pot true)
    (po : Post K (lend (Lent ρ σ as) G H) H (potPs bs vs) G' H') : Rel K E ρ (keepOff (Lent ρ σ as) G') σ H' ∧ Ex G (keepOff (Lent ρ σ as) G') := by
  have e0 := lend_ex (as := as) R
  have gx : Ex G (keepOff (Lent ρ σ as) G') := fun q o h => by
    have l : ¬ Lent ρ σ as q := fun l => by
      obtain ⟨_, _, _, _, _, _, g, _⟩ := l.own R
      rw [g] at h
      cases h
    rw [off_out l]
    exact po.grow q o (e0 q o h)
  -- the pots that were handed over
  have pot : ∀ {q : Addr}, q ∈ potPs bs vs → ∃ (i : Nat) (b : Bool), ρ[i]? = some (some (.pot b)) ∧ σ[i]? = some (some (.ref q)) := fun {q} hq => by
    obtain ⟨j, b, h1, h2⟩ := mem_potPs.mp hq
    have := hpt _ (List.mem_of_getElem? h1) rfl
    cases this
    obtain ⟨i, c, _, h3, h4⟩ := hp j h1
    exact ⟨i, c, h3, h4 _ h2⟩
  have gone : ∀ {q : Addr}, G q = none → H q ≠ none → keepOff (Lent ρ σ as) G' q = none := fun {q} g h => by
    by_cases l : Lent ρ σ as q
    · exact off_in l
    · rw [off_out l]
      cases z : G' q with
      | none => rfl
      | some o =>
        rcases po.new q o z with y | y
        · rw [lend_out l, g] at y
          cases y
        · exact absurd y h
  refine ⟨⟨fun q o h => ?_, R.len, fun i a h => ?_, R.apart, R.mine, R.par, R.grow.trans gx, fun b o h => ?_, R.but.then po.but fun b hq => ?_, fun q hq => ?_, R.h0p, fun b o h => ?_, R.fno, fun b qs h => ?_⟩, gx⟩
  · by_cases l : Lent ρ σ as q
    · rw [off_in l] at h
      cases h
    · rw [off_out l] at h
      exact po.sub q o h
  · obtain ⟨v, ev, hh⟩ := R.slot i a h
    refine ⟨v, ev, ?_⟩
    cases ho : a.isOwn with
    | false => exact hh.still gx ho
    | true =>
      obtain ⟨q, rfl, gq, st⟩ := hh.own ho
      refine Hold.of_own ho (gone gq st.some) ?_
      by_cases hq : q ∈ potPs bs vs
      · obtain ⟨i', b, h1, h2⟩ := pot hq
        have ei : i = i' := Classical.byContradiction fun ne => R.apart i i' a _ _ ne h h1 ho rfl ev h2
        subst ei
        rw [h] at h1
        cases h1
        exact po.pots q hq
      · exact st.mono gx (po.but.keep hq st.some st.mut)
  · by_cases l : Lent ρ σ as b
    · rw [off_in l] at h
      cases h
    · rw [off_out l] at h
      rcases po.new b o h with y | y
      · rw [lend_out l] at y
        exact R.new b o y
      · exact .inr (R.h0 y)
  · obtain ⟨i, c, e1, e2⟩ := pot hq
    rcases R.mine i _ b e1 rfl e2 with y | y
    · exact .inl y.2
    · exact .inr y.2
  · by_cases z : q ∈ potPs bs vs
    · exact po.pots q z
    · exact pot_at (R.live q hq) (po.but.keep z (pot_some (R.live q hq)) (pot_mut (R.live q hq)))
  · obtain ⟨h1, h2, h3⟩ := R.frm b o h
    refine ⟨po.but.but b o (fun hq => ?_) h1 (fun qs e => R.fno b qs (by rw [h, e])), gone h2 (by rw [h1]; exact nofun), h3⟩
    obtain ⟨i, c, e1, e2⟩ := pot hq
    exact h3 i _ e1 rfl e2
  · by_cases l : Lent ρ σ as b
    · rw [off_in l] at h
      cases h
    · rw [off_out l] at h
      exact po.gno b qs h
theorem lend_gno {K : PySem.W.Frag} {E : Ent} {ρ : S} {G H : Hp} {σ : L2.St} {as : List AV} (R : Rel K E ρ G σ H) : ∀ b qs, lend (Lent ρ σ as) G H b ≠ some (.tbl qs) := fun b qs h => by
  by_cases l : Lent ρ σ as b
  · obtain ⟨i, c, d, _, _, _, _, st⟩ := l.own R
    rw [lend_in l] at h
    exact (show Stands K G H b (.own false d) from st).mut.1 qs h
  · rw [lend_out l] at h
    exact R.gno b qs h
theorem ref_call {W : WX} {E : Ent} {ρ : S} {G : Hp} {σ : L2.St} {H : Hp} {Q : VK} {kk : KE} {xx : KX} {as : List AV} {vs : List V} (R1 : Rel X.K E ρ G σ H) (lx : LkX X.K E xx W) (lk : LkE X.K E G σ kk Q) (q1 : Paired (fun a v => a.isOwn = false ∧ Res X.K E ρ G σ H a v) as vs)
    (h1 : argK ρ as fun bs w => (bs.filter AV.isOwn).length ≤ 1 ∧ (bs.length = n ∧ F bs (fun r => (w = false ∨ flAV r = true) ∧ kk r ρ) (fun c => (w = false ∨ flX c = true) ∧ xx c ρ))) : spT X.K n F vs H Q (WE W σ) := by
  have own := fun (q : Addr) (z : Lent ρ σ as q) => z
  obtain ⟨bs, w, p1, p2, p3, p4, one, hl, h1⟩ := argK_of R1 (Lent ρ σ as) own (fun q z => by obtain ⟨i, b, d, _, z2, z3⟩ := z; exact ⟨i, b, d, z2, z3⟩) (lend_ex R1) q1 h1
  refine ⟨lend (Lent ρ σ as) G H, bs, _, _, hl, lend_sub R1, ⟨p1, p2, (fun i j a b v n h1 h2 o1 o2 _ _ => one_own one i j a b n h1 h2 o1 o2), lend_gno R1⟩, h1, fun r G' v H' po rr hk => ?_, fun c G' dd H' po xr hk => ?_⟩
  · obtain ⟨R2, e2⟩ := after_call R1 p3 p2 po
    refine lk r ρ _ v H' e2 R2 ?_ hk.2
    have nt : ∀ q xs, Lent ρ σ as q → ¬ Rd G' q (.tup xs) := fun q xs l z => by
      obtain ⟨i, b, d, _, _, _, g1, st⟩ := l.own R1
      have hz : (∃ ys, H q = some (.lst ys)) ∨ ∃ ys, H q = some (.dK ys) := by
        cases d with
        | list ds => obtain ⟨xs, a1, _⟩ := st; exact .inl ⟨_, a1⟩
        | dict ds => obtain ⟨xs, a1, _⟩ := st; exact .inr ⟨_, a1⟩
        | _ => exact st.elim
      rcases hz with ⟨ys, ho⟩ | ⟨ys, ho⟩
      · have g := po.grow q _ ((lend_in l).trans ho)
        rcases z with z | ⟨_, z⟩ <;> (rw [g] at z; cases z)
      · have g := po.grow q _ ((lend_in l).trans ho)
        rcases z with z | ⟨_, z⟩ <;> (rw [g] at z; cases z)
    have same : (∀ q, ¬ Lent ρ σ as q) → keepOff (Lent ρ σ as) G' = G' := fun no => funext fun q => off_out (no q)
    rcases rr with ⟨no, hh⟩ | ⟨yo, np, q, rfl, gq, st, nq⟩
    · refine .inr (.inl ⟨no, ?_⟩)
      rcases hk.1 with hw | fl
      · rw [same (p4 hw)]
        exact hh
      · cases r with
        | dat d => exact tup_off nt hh fl
        | raw u => exact hh
        | own b d => cases no
        | _ => cases fl
    · refine .inr (.inr ⟨yo, np, q, rfl, ?_, ?_, ⟨R1.h0 nq, R1.f0 nq⟩, R1.loose nq⟩)
      · by_cases l : Lent ρ σ as q
        · exact off_in l
        · rw [off_out l]
          exact gq
      · rcases hk.1 with hw | fl
        · rw [same (p4 hw)]
          exact st
        · cases r with
          | own b d =>
            cases d with
            | list ds => obtain ⟨xs, a1, a2⟩ := (show Own X.K G' H' q (.list ds) from st); exact ⟨xs, a1, tups_off nt a2 fl⟩
            | _ => cases fl
          | dat d => cases yo
          | raw u => cases yo
          | _ => cases fl
  · obtain ⟨R2, e2⟩ := after_call R1 p3 p2 po
    refine lx c ρ _ σ dd H' R2 ?_ hk.2
    obtain ⟨ws, g, fl⟩ := xr
    have nl : ¬ Lent ρ σ as dd := fun l => by
      obtain ⟨i, b, d, _, _, _, g1, st⟩ := l.own R1
      have hz : ∃ o, H dd = some o ∧ ∀ u, o ≠ .xd u := by
        cases d with
        | list ds => obtain ⟨xs, a1, _⟩ := st; exact ⟨_, a1, nofun⟩
        | dict ds => obtain ⟨xs, a1, _⟩ := st; exact ⟨_, a1, nofun⟩
        | _ => exact st.elim
      obtain ⟨o, ho, ne⟩ := hz
      have := po.grow dd o ((lend_in l).trans ho)
      rw [g] at this
      exact ne _ (Option.some.inj this).symm
    refine ⟨ws, (off_out nl).trans g, ?_⟩
    rcases hk.1 with hw | fx
    · rw [show keepOff (Lent ρ σ as) G' = G' from funext fun q => off_out (p4 hw q)]
      exact fl
    · exact flds_any fl fx
/-- a def in which nothing is shown -/
theorem xe_callO (Fn : FnOk X.prog X.w X.K X.mg X.base (L2.CX X.prog X.w) k f fd ps (spT X.K n F)) (hr : Room k X.A) (hg : Gl X x) (hm : X.mg x = some (.ref f)) (hk : PySem.W.keepIn X.K (.ref f) = true) (hb : Binds X.K fd ps [])
    (ha : TrA X (e :: es) fr) (hdb : (x == ("__debug__" : Str)) = false := by decide) (he : starEach (e :: es) X.env = (false, eval e X.env) :: starEach es X.env := by rfl) (hpl : (backTo pos (starEach es X.env)).any (·.1) = false := by rfl) :
    TrE X (.Call (.Name x p) (e :: es) [] pos) (fCall n F fr) := fun W E ρ G σ H Q k x tk R lx lk hf pins s I =>
  (pe_callS Fn hr hg hm hk hb (fun σ => passAt tk.1 σ) pa_w hdb he hpl).run pins s σ H Q I (ha W E ρ G σ H _ _ x tk R lx (fun as ρ1 G1 vs H1 e1 R1 q1 h1 => ref_call R1 lx (lk.up e1) q1 h1) hf)
end
end Tr
set_option Elab.async false
set_option linter.all false
set_option maxRecDepth 100000
namespace Tr
open PySem PySem.Spec PyProof.Rows L2 Evl Kc Kz Kx
section
variable {K : PySem.W.Frag} {mg : Str → Option Value} {P : Program} {base : Heap} {w : World}
theorem fnTo {nm qual : Str} {st : Stmt} {f : Addr} {fd : FuncData} {N ps : List Str} {k : Nat} {F : FD} {fb : FS} (Fn : Fun K nm qual st f fd) (S : FnScope N ps (defScope st))
    (body : ∀ (cdv : Value) (A : Around) (outer : List Env) (s : Shared) (H : Hp) (E : XK), Room k (A.deeper (envOfC qual (defScope st) s.heap.objs.size f cdv)) → TrB (cxOf (L2.CX P w) P w K mg base N qual (defScope st) f cdv A outer s H E) (defBody st) fb)
    (imp : ∀ as k x, as.length = ps.length → F as k x → fb (start0 N.length as) { nx := fun _ => k (.dat .none), rt := fun a ρ => rtK a ρ k } fun c _ => x c) :
    FnOk P w K mg base (L2.CX P w) (k + 1) f fd ps (spT K ps.length F) := by
  have pln : ps.length ≤ N.length := by
    have := congrArg List.length S.pre
    rw [List.length_take] at this
    omega
  refine Fn.okX S (fun vs H Q E h => ?_) fun cdv A outer s H vs Q E room want => ⟨_, pb_w, ?_⟩
  · obtain ⟨G, as, k, x, h1, _, h2, _⟩ := h
    rw [← h1]
    exact (Paired.length h2.hold).symm
  · obtain ⟨G, as, k, x, h1, h2, h3, h4, h5, h6⟩ := want
    have vl : vs.length ≤ N.length := by
      rw [← Paired.length h3.hold, h1]
      exact pln
    refine body cdv A outer s H E room (fun cls d _ H => E cls d H) ⟨vs, potPs as vs, H, G, fun _ => none⟩ _ G _ H _ { nx := fun _ => k (.dat .none), rt := fun a ρ => rtK a ρ k } (fun c _ => x c) ⟨takes_of rfl rfl rfl rfl, fun _ _ _ _ t => t⟩ (rel_start h2 h3 vl) (fun c ρ' G' σ' dd H' R q hx => ?_) ⟨fun ρ' G' σ' H' _ R hn => ?_, fun a ρ' G' σ' v H' _ R q hr => ?_, fun ρ' G' σ' H' _ _ z => z.elim, fun ρ' G' σ' H' _ _ z => z.elim⟩ (imp as k x h1 h4)
    · exact h6 c G' dd H' R.post q hx
    · exact h5 (.dat .none) G' .non H' R.post (.inl ⟨rfl, .non⟩) hn
    · obtain ⟨b, rb, hk⟩ := rtK_of R q hr
      exact h5 b G' v H' R.post rb hk
/-- a promise told without errors serves where errors are known -/
theorem okCX {k : Nat} {f : Addr} {fd : FuncData} {ps : List Str} {sp : Sp} (F : FnOk P w K mg base CX0 k f fd ps sp) : FnOk P w K mg base (L2.CX P w) k f fd ps sp :=
  ⟨F.len, fun A outer s H args us vs Q E r e b v h => codeAny_mono (F.run A outer s H args us vs Q E r e b v h) fun z s' got => by
    cases z with
    | error u => exact (show False from got).elim
    | ok fl => cases fl <;> exact got⟩
/-- the law itself lets nothing out -/
theorem calmG {k : Nat} {f : Addr} {fd : FuncData} {ps : List Str} {sp : Sp} (F : FnG P w K mg base (L2.CX P w) k f fd ps sp) : FnG P w K mg base CX0 k f fd ps (fun vs H Q _ => sp vs H Q fun _ _ _ => False) :=
  ⟨fun vs H Q E h => F.many _ _ _ _ h, fun A outer s H args us vs Q E g r e b v h => codeAny_mono (F.goes A outer s H args us vs Q _ g r e b v h) fun z s' got => by
    cases z with
    | error u =>
      obtain ⟨_, _, _, _, _, _, _, _, _, _, _, _, no⟩ := (show L2.CX P w outer H s (fun _ _ _ => False) u s' from got)
      exact no.elim
    | ok fl => cases fl <;> exact got⟩
end
theorem ts_no {X : Cx} {st : Stmt} : TrS X st fun _ _ _ => False := fun _ _ _ _ _ _ _ _ _ _ _ _ _ h => h.elim
def YM (K : PySem.W.Frag) (r : V → List V → Hp → VK → Prop) (g : List D → List D → (D → List D → Prop) → Prop) : Prop := ∀ (G H : Hp) (p : Addr) (xs : List V) (ds : List D) (vs : List V) (es : List D) (Q : VK) (k : D → List D → Prop), H p = some (.lst xs) → Rps K G xs ds → Rps K G vs es → g ds es k →
  (∀ v d xs' ds', Rp K G v d → Rps K G xs' ds' → k d ds' → Q v (upd H p (.lst xs'))) → r (.ref p) vs H Q
def ownL (ρ : S) (i : Nat) (k : Bool → List D → Prop) : Prop :=
  match ρ[i]? with
  | some (some (.own b (.list ds))) => k b ds
  | _ => False
theorem ownL_of {ρ : S} {i : Nat} {k : Bool → List D → Prop} (h : ownL ρ i k) : ∃ b ds, ρ[i]? = some (some (.own b (.list ds))) ∧ k b ds := by
  unfold ownL at h
  split at h
  · exact ⟨_, _, by assumption, h⟩
  · exact h.elim
def fMut (i : Nat) (g : List D → List D → (D → List D → Prop) → Prop) (fr : FA) : FE := fun ρ k x => ownL ρ i fun _ _ => fr ρ (fun as ρ1 => dats as fun es => ownL ρ1 i fun b ds => b = false ∧ g ds es fun d ds' => k (.dat d) (ρ1.set i (some (.own false (.list ds'))))) x
section
variable {X : Cx} {e o : Expr} {es : List Expr} {fr : FA} {fa fb : FE} {n : Str} {apos cpos pos p0 : Pos} {i : Nat}
theorem own_at {K : PySem.W.Frag} {E : Ent} {ρ : S} {G H : Hp} {σ : L2.St} {b : Bool} {ds : List D} (R : Rel K E ρ G σ H) (h : ρ[i]? = some (some (.own b (.list ds)))) : ∃ p xs, σ[i]? = some (some (.ref p)) ∧ H p = some (.lst xs) ∧ Rps K G xs ds := by
  obtain ⟨v, e, hh⟩ := R.slot i _ h
  obtain ⟨p, rfl, _, xs, e1, e2⟩ := hh
  exact ⟨p, xs, e, e1, e2⟩
theorem ref_mut {r : V → List V → Hp → VK → Prop} {g : List D → List D → (D → List D → Prop) → Prop} (y : YM X.K r g) {t : TA} (ha : RefA X t fr) : RefE X (tBM X.K "list" r (tVar i) t) (fMut i g fr) := fun W E ρ G σ H Q k x tk R lx lk hf => by
  obtain ⟨b0, ds0, h0, hf⟩ := ownL_of hf
  obtain ⟨p, xs, s0, e1, _⟩ := own_at R h0
  refine ⟨_, s0, .inl ⟨rfl, xs, .inl (.inl e1)⟩, ha W E ρ G σ H _ _ x tk R lx (fun as ρ1 G1 vs H1 g1 R1 q1 h1 => ?_) hf⟩
  obtain ⟨es, rp, h1⟩ := dats_rps q1 h1
  obtain ⟨b, ds, h2, bf, h1⟩ := ownL_of h1
  subst bf
  obtain ⟨q, ys, s1, f1, f2⟩ := own_at R1 h2
  rw [s0] at s1
  cases s1
  refine y G1 H1 p ys ds vs es _ _ f1 f2 rp h1 fun v d xs' ds' rv rx hk => ?_
  exact lk _ _ G1 v _ g1 (R1.mut (a' := .own false (.list ds')) h2 rfl s0 rfl rfl (fun z => nomatch z) ⟨xs', upd_same, rx⟩) (.dat rv) hk
def mAppend : List D → List D → (D → List D → Prop) → Prop := fun ds es k =>
  match es with
  | [d] => ds.length < sizeLine ∧ k .none (ds ++ [d])
  | _ => False
def mPopAt : List D → List D → (D → List D → Prop) → Prop := fun ds es k =>
  match es with
  | [.int j] => ∃ (n : Nat) (d : D), j = (n : Nat) ∧ n < 1000000 ∧ ds[n]? = some d ∧ k d (ds.eraseIdx n)
  | _ => False
theorem y_append {K : PySem.W.Frag} : YM K rAppend mAppend := fun G H p xs ds vs es Q k e r s h lk => by
  cases s with
  | nil => exact h.elim
  | cons a t =>
    cases t with
    | cons _ _ => exact h.elim
    | nil => exact ⟨p, xs, _, rfl, rfl, e, by rw [r.len]; exact h.1, lk _ _ _ _ .non (r.app (.cons a .nil)) h.2⟩
theorem y_popAt {K : PySem.W.Frag} : YM K rPopAt mPopAt := fun G H p xs ds vs es Q k e r s h lk => by
  cases s with
  | nil => exact h.elim
  | cons a t =>
    cases t with
    | cons _ _ => cases a <;> exact h.elim
    | nil =>
      cases a <;> first | exact h.elim | skip
      obtain ⟨n, d, rfl, hz, hd, hk⟩ := h
      obtain ⟨v, hv, rv⟩ := r.get hd
      have hn := (List.getElem?_eq_some_iff.mp hv).1
      refine ⟨p, xs, _, n, v, rfl, rfl, e, by omega, by omega, ?_, hv, lk _ _ _ _ rv (r.eraseIdx n) hk⟩
      rw [seqIndex_of (by omega) (by omega)]
      rfl
theorem xe_append (i : Nat) (pv : PE X o (tVar i)) (ha : TrA X [e] fr) (hbase : attributeBase o "append" X.env (eval o X.env) = eval o X.env := by rfl)
    (hfew : ((backTo cpos (starEach [e] X.env)).all (fun x => !x.1) && (backToKw cpos (keywordEach [] X.env)).all (fun x => x.1.isSome) && decide ([e].length + ([] : List Keyword).length + (if ([] : List Keyword).isEmpty then 0 else 1) < 30)) = true := by rfl)
    (hs : starEach [e] X.env = (false, eval e X.env) :: starEach [] X.env := by rfl) (hline : (apos.endLine == cpos.line) = true := by rfl) (hplain : (backTo cpos (starEach [] X.env)).any (·.1) = false := by rfl) :
    TrE X (.Call (.Attribute o "append" apos) [e] [] cpos) (fMut i mAppend fr) := .of (pe_bm PySem.F.plainAttrs_list PySem.F.slot_list_append PySem.F.type_list_append mt_append pv pa_w hbase hfew hline hs hplain) (ref_mut y_append ha)
theorem xe_popAt (i : Nat) (pv : PE X o (tVar i)) (ha : TrA X [e] fr) (hbase : attributeBase o "pop" X.env (eval o X.env) = eval o X.env := by rfl)
    (hfew : ((backTo cpos (starEach [e] X.env)).all (fun x => !x.1) && (backToKw cpos (keywordEach [] X.env)).all (fun x => x.1.isSome) && decide ([e].length + ([] : List Keyword).length + (if ([] : List Keyword).isEmpty then 0 else 1) < 30)) = true := by rfl)
    (hs : starEach [e] X.env = (false, eval e X.env) :: starEach [] X.env := by rfl) (hline : (apos.endLine == cpos.line) = true := by rfl) (hplain : (backTo cpos (starEach [] X.env)).any (·.1) = false := by rfl) :
    TrE X (.Call (.Attribute o "pop" apos) [e] [] cpos) (fMut i mPopAt fr) := .of (pe_bm PySem.F.plainAttrs_list PySem.F.slot_list_pop PySem.F.type_list_pop mt_popAt pv pa_w hbase hfew hline hs hplain) (ref_mut y_popAt ha)
def fFld (C : Addr) (f : Str) (fa : FE) : FE := fun ρ k x => fa ρ (fun a ρ1 => match a with | .obj C' fs => C' = C ∧ ∃ d, fs.lookup f = some d ∧ k (.dat d) ρ1 | _ => False) x
theorem flds_look {K : PySem.W.Frag} {G : Hp} {f : Str} {d : D} : ∀ {vs : List (Str × V)} {fs : List (Str × D)}, Flds K G vs fs → fs.lookup f = some d → ∃ v, vs.lookup f = some v ∧ Rp K G v d
  | _, _, .nil, e => by cases e
  | (a, v) :: vs, (b, c) :: fs, .cons h t, e => by
    have h1 : a = b := h.1
    subst h1
    rw [List.lookup_cons] at e ⊢
    cases q : f == a with
    | true => rw [q] at e; cases e; exact ⟨v, rfl, h.2⟩
    | false => rw [q] at e; exact flds_look t e
theorem xe_fld {C : Addr} {f : Str} (c : Cls X.K C) (na : NoAttr X.K C f) (h : TrE X e fa) (hb : attributeBase e f X.env (eval e X.env) = eval e X.env := by rfl) : TrE X (.Attribute e f pos) (fFld C f fa) := .of (pe_fld pe_w hb) fun W E ρ G σ H Q k x tk R lx lk hf => by
  refine h W E ρ G σ H _ _ x tk R lx (fun a ρ1 G1 v H1 e1 R1 q1 h1 => ?_) hf
  cases a <;> first | exact h1.elim | skip
  obtain ⟨rfl, d, hl, hk⟩ := h1
  rcases q1 with ⟨i, z, _⟩ | ⟨_, hh⟩ | ⟨z, _⟩
  · cases z
  · obtain ⟨b, dx, vs, rfl, g, fl⟩ := hh
    obtain ⟨u, hu, ru⟩ := flds_look fl hl
    exact ⟨b, _, dx, vs, u, rfl, R1.sub _ _ g, c, na, hu, lk _ ρ1 G1 u H1 e1 R1 (.dat ru) hk⟩
  · cases z
def sPar (i j : Nat) (fr : FA) : FS := fun ρ N x => fr ρ (fun as ρ1 => match as with | [a, b] => putK i a ρ1 fun ρ2 => putK j b ρ2 N.nx | _ => False) x
theorem ref_par {i j : Nat} {ta : TA} (h : RefA X ta fr) : RefS X (tPar i j ta) (sPar i j fr) := fun W E ρ G σ H M N x tk R lx lk hf => by
  refine h W E ρ G σ H _ _ x tk R lx (fun as ρ1 G1 vs H1 e1 R1 q1 h1 => ?_) hf
  match as, q1, h1 with
  | [a, b], .cons qa (.cons qb .nil), h1 =>
    obtain ⟨h1, n1, m1⟩ := putK_of h1
    obtain ⟨h2, n2, m2⟩ := putK_of h1
    have R2 := R1.putRes (i := i) qa.2 n1 m1
    refine ⟨_, _, rfl, lk.nx _ G1 _ H1 e1 (R2.putRes (i := j) ?_ n2 m2) h2⟩
    rcases qb.2 with ⟨m, z, _⟩ | ⟨no, hh⟩ | ⟨yo, _⟩
    · exact absurd z (m2 m)
    · exact .inr (.inl ⟨no, hh⟩)
    · rw [qb.1] at yo
      cases yo
end
end Tr
set_option Elab.async false
set_option linter.all false
set_option maxRecDepth 100000
namespace Tr
open PySem PySem.Spec PyProof.Rows L2 Evl Kc Kz Kx
/-- the built-ins' names are free -/
structure Blt (mg : Str → Option Value) : Prop where
  len : mg "len" = none
  isinstance : mg "isinstance" = none
  str : mg "str" = none
  int : mg "int" = none
  bool : mg "bool" = none
  list : mg "list" = none
  tuple : mg "tuple" = none
  dict : mg "dict" = none
  all : mg "all" = none
  any : mg "any" = none
  max : mg "max" = none
  min : mg "min" = none
  sum : mg "sum" = none
  abs : mg "abs" = none
  divmod : mg "divmod" = none
  range : mg "range" = none
  repr : mg "repr" = none
  zip : mg "zip" = none
  enumerate : mg "enumerate" = none
  sorted : mg "sorted" = none
/-- a def that keeps its promise by trees; nothing is shown in it -/
structure DefO (P : Program) (w : World) (K : PySem.W.Frag) (mg : Str → Option Value) (base : Heap) (nm : Str) (ps : List Str) (l : Nat) (F : FD) : Prop where
  ex : ∃ f fd, FnOk P w K mg base (L2.CX P w) l f fd ps (spT K ps.length F) ∧ mg nm = some (.ref f) ∧ PySem.W.keepIn K (.ref f) = true ∧ Binds K fd ps []
abbrev In (X : Cx) (P : Program) (w : World) (K : PySem.W.Frag) (mg : Str → Option Value) (base : Heap) : Prop := X.prog = P ∧ X.w = w ∧ X.K = K ∧ X.mg = mg ∧ X.base = base
section
variable {X : Cx} {P : Program} {w : World} {K : PySem.W.Frag} {mg : Str → Option Value} {base : Heap} {nm : Str} {ps : List Str} {l k : Nat} {F : FD} {e : Expr} {es : List Expr} {fr : FA} {p pos : Pos}
theorem xe_callD (d : DefO P w K mg base nm ps l F) (i : In X P w K mg base) (hr : Room k X.A) (hk : l ≤ k) (hg : Gl X nm) (ha : TrA X (e :: es) fr) (hdb : (nm == ("__debug__" : Str)) = false := by decide)
    (he : starEach (e :: es) X.env = (false, eval e X.env) :: starEach es X.env := by rfl) (hpl : (backTo pos (starEach es X.env)).any (·.1) = false := by rfl) : TrE X (.Call (.Name nm p) (e :: es) [] pos) (fCall ps.length F fr) := by
  obtain ⟨rfl, rfl, rfl, rfl, rfl⟩ := i
  obtain ⟨f, fd, ok, m, kp, b⟩ := d.ex
  exact xe_callO ok (hr.mono hk) hg m kp b ha hdb he hpl
theorem ts_par {i j : Nat} {x y : Str} {a b : Expr} {px py pt : Pos} {kt k2 pt2} (ha : TrA X [a, b] fr) (hc : X.calm = true) (hN : X.N.Nodup) (hi : X.N[i]? = some x) (hj : X.N[j]? = some y) (hij : i ≠ j)
    (hx : X.env.scope.names.lookup x = some .local) (hy : X.env.scope.names.lookup y = some .local)
    (w1 : swappedStores [.Tuple [.Name x px, .Name y py] kt pt] (.Tuple [a, b] k2 pt2) X.env = pure (some [x, y]))
    (w2 : swapsWithSole [.Tuple [.Name x px, .Name y py] kt pt] (.Tuple [a, b] k2 pt2) pos.line X.env = pure false := by rfl) :
    TrS X (.Assign [.Tuple [.Name x px, .Name y py] kt pt] (.Tuple [a, b] k2 pt2) pos) (sPar i j fr) := .of (ps_par hc hN hi hj hij hx hy pa_w w1 w2) (ref_par ha)
end
section
variable {K : PySem.W.Frag} {E : Ent} {ρ : S} {G H H' : Hp} {σ : L2.St}
/-- new things that stay -/
theorem Rel.adopt (R : Rel K E ρ G σ H) (s : Ex H H') (A : List Addr) (hA : ∀ t ∈ A, H t = none) (hT : ∀ t ∈ A, ∀ qs, H' t ≠ some (.tbl qs)) : Rel K E ρ (fun b => if b ∈ A then H' b else G b) σ H' ∧ Ex G (fun b => if b ∈ A then H' b else G b) := by
  have out : ∀ {b : Addr}, H b ≠ none → b ∉ A := fun h z => h (hA _ z)
  have gx : Ex G (fun b => if b ∈ A then H' b else G b) := fun b o h => by
    show (if b ∈ A then H' b else G b) = some o
    rw [if_neg (out (by rw [R.sub b o h]; exact nofun))]
    exact h
  have same : ∀ {b : Addr}, H b ≠ none → H' b = H b := fun {b} h => by
    cases e : H b with
    | none => exact absurd e h
    | some o => exact s b o e
  refine ⟨⟨fun b o h => ?_, R.len, fun i a h => ?_, R.apart, R.mine, R.par, R.grow.trans gx, fun b o h => ?_, R.but.same s, fun p hp => pot_at (R.live p hp) (same (pot_some (R.live p hp))), R.h0p, fun b o h => ?_, R.fno, fun b qs h => ?_⟩, gx⟩
  · have h : (if b ∈ A then H' b else G b) = some o := h
    split at h
    · exact h
    · exact s b o (R.sub b o h)
  · obtain ⟨v, ev, hh⟩ := R.slot i a h
    refine ⟨v, ev, ?_⟩
    cases ho : a.isOwn with
    | false => exact hh.still gx ho
    | true =>
      obtain ⟨p, rfl, gp, st⟩ := hh.own ho
      refine Hold.of_own ho ?_ (st.mono gx (same st.some))
      show (if p ∈ A then H' p else G p) = none
      rw [if_neg (out st.some)]
      exact gp
  · have h : (if b ∈ A then H' b else G b) = some o := h
    split at h
    · exact .inr (R.h0 (hA b (by assumption)))
    · exact R.new b o h
  · obtain ⟨h1, h2, h3⟩ := R.frm b o h
    refine ⟨s b o h1, ?_, h3⟩
    show (if b ∈ A then H' b else G b) = none
    rw [if_neg (out (by rw [h1]; exact nofun))]
    exact h2
  · have h : (if b ∈ A then H' b else G b) = some (.tbl qs) := h
    split at h
    · exact hT b (by assumption) qs h
    · exact R.gno b qs h
end
section
variable {X : Cx} {fr : FA} {fa : FE} {e e1 e2 o : Expr} {es : List Expr} {p p2 pos pos2 apos cpos : Pos}
def fLZ (fr : FA) : FE := fun ρ k x => fr ρ (fun as ρ1 => vws ρ1 as fun ds => match ds with | [.list xs, .list ys] => k (.own false (.list (zipD xs ys))) ρ1 | _ => False) x
theorem xe_listZip (hc : X.calm = true) (hg : Gl X "list") (hm : X.mg "list" = none) (hg2 : Gl X "zip") (hm2 : X.mg "zip" = none) (ha : TrA X [e1, e2] fr)
    (hs2 : starEach [e1, e2] X.env = (false, eval e1 X.env) :: starEach [e2] X.env := by rfl) (hpl : (backTo pos2 (starEach [e2] X.env)).any (·.1) = false := by rfl)
    (hs : starEach [.Call (.Name "zip" p2) [e1, e2] [] pos2] X.env = (false, eval (.Call (.Name "zip" p2) [e1, e2] [] pos2) X.env) :: starEach [] X.env := by rfl) :
    TrE X (.Call (.Name "list" p) [.Call (.Name "zip" p2) [e1, e2] [] pos2] [] pos) (fLZ fr) := .of (pe_listZip hc hg hm hg2 hm2 pa_w hs2 hpl hs) fun W E ρ G σ H Q k x tk R lx lk hf => by
  refine ha W E ρ G σ H _ _ x tk R lx (fun as ρ1 G1 vs H1 g1 R1 q1 h1 => ?_) hf
  obtain ⟨ds, pr, h1⟩ := vws_vw R1 q1 h1
  split at h1
  · rename_i xs ys
    obtain ⟨v, u, rfl, hv, hu⟩ := pair2 pr
    obtain ⟨a, xv, rfl, ea, ra⟩ := hv.lsts R1.sub
    obtain ⟨b, yv, rfl, eb, rb⟩ := hu.lsts R1.sub
    refine ⟨a, b, xv, yv, rfl, .inl (.inl ea), .inl (.inl eb), fun H' l ts s nl nt el ln at_ => ?_⟩
    obtain ⟨R2, g2⟩ := R1.adopt (H' := H') s ts nt fun t ht qs z => by
      obtain ⟨j, hj⟩ := List.mem_iff_getElem?.mp ht
      obtain ⟨x, y, _, _, e⟩ := at_ j t hj
      rw [z] at e
      cases e
    have nlt : l ∉ ts := fun z => by
      obtain ⟨j, hj⟩ := List.mem_iff_getElem?.mp z
      obtain ⟨x, y, _, _, e⟩ := at_ j l hj
      rw [el] at e
      cases e
    refine lk (.own false (.list (zipD xs ys))) ρ1 _ _ H' (g1.trans g2) R2 (.inr (.inr ⟨rfl, rfl, l, rfl, ?_, ⟨_, el, ?_⟩, ⟨R1.h0 nl, R1.f0 nl⟩, R1.loose nl⟩)) h1
    · show (if l ∈ ts then H' l else G1 l) = none
      rw [if_neg nlt]
      exact R1.g0 nl
    · -- the pairs
      have key : ∀ (n : Nat) (ts : List Addr) (xv yv : List V) (xs ys : List D) (G : Hp), Rps X.K G xv xs → Rps X.K G yv ys → ts.length = min xv.length yv.length → (∀ (j : Nat) (t : Addr), ts[j]? = some t → ∃ x y, xv[j]? = some x ∧ yv[j]? = some y ∧ G t = some (.tup [x, y])) → Rps X.K G (ts.map V.ref) (zipD xs ys) := fun _ ts => by
        induction ts with
        | nil =>
          intro xv yv xs ys G r1 r2 l _
          cases r1 with
          | nil => exact .nil
          | cons a t =>
            cases r2 with
            | nil => exact .nil
            | cons _ _ =>
              simp only [List.length_nil, List.length_cons] at l
              omega
        | cons t ts ih =>
          intro xv yv xs ys G r1 r2 l h
          obtain ⟨x, y, ex, ey, et⟩ := h 0 t rfl
          cases r1 with
          | nil => cases ex
          | cons a r1 =>
            cases r2 with
            | nil => cases ey
            | cons b r2 =>
              cases Option.some.inj ex
              cases Option.some.inj ey
              refine .cons (.tup (.inl (.inl et)) (.cons a (.cons b .nil))) (ih _ _ _ _ G r1 r2 ?_ fun j t hj => h (j + 1) t hj)
              simp only [List.length_cons] at l
              omega
      refine key 0 ts xv yv xs ys _ (ra.mono g2) (rb.mono g2) ln fun j t hj => ?_
      obtain ⟨x, y, ex, ey, et⟩ := at_ j t hj
      refine ⟨x, y, ex, ey, ?_⟩
      show (if t ∈ ts then H' t else G1 t) = _
      rw [if_pos (List.mem_of_getElem? hj)]
      exact et
  · exact h1.elim
def fMeth (g : D → List D → (Out → Prop) → Prop) (fa : FE) (fr : FA) : FE := fun ρ k x => fa ρ (fun a ρ1 => fz a fun a' => datK a' fun d => (∃ z, d = .str z) ∧ fr ρ1 (fun as ρ2 => vws ρ2 as fun ds => g d ds fun o => k o.av ρ2) x) x
theorem ref_strM {r : V → List V → Hp → VK → Prop} {g : D → List D → (Out → Prop) → Prop} (y : ∀ G H z vs ds, Ex G H → Paired (Vw X.K G H) vs ds → Yields X.K G H (r (.str z) vs) (g (.str z) ds)) {to : TE} {t : TA} (ho : RefE X to fa) (ha : RefA X t fr) :
    RefE X (tBM X.K "str" r to t) (fMeth g fa fr) := fun W E ρ G σ H Q k x tk R lx lk hf => by
  refine ho W E ρ G σ H _ _ x tk R lx (fun a ρ1 G1 v H1 e1 R1 q1 h1 => ?_) hf
  obtain ⟨a', G2, no, e2, R2, q2, h1⟩ := q1.fz R1 h1
  obtain ⟨d, rd, ⟨z, hz⟩, h1⟩ := q2.datK h1
  subst hz
  cases rd
  refine ⟨rfl, ha W E ρ1 G2 σ H1 _ _ x tk R2 lx (fun as ρ3 G3 vs H3 e3 R3 q3 h3 => ?_) h1⟩
  obtain ⟨ds, pr, h3⟩ := vws_vw R3 q3 h3
  exact y G3 H3 z vs ds R3.sub pr Q _ (outLk R3 (lk.up ((e1.trans e2).trans e3))) h3
def gJoin : D → List D → (Out → Prop) → Prop := fun d es k =>
  match d, es with
  | .str a, [.list ds] => strsK ds fun ys => (ys.map (·.length)).sum + ys.length * a.length ≤ 16777216 ∧ k (.val (.str (Txt.join a ys)))
  | _, _ => False
theorem xe_join (ho : TrE X o fa) (ha : TrA X [e] fr) (hbase : attributeBase o "join" X.env (eval o X.env) = eval o X.env := by rfl)
    (hfew : ((backTo cpos (starEach [e] X.env)).all (fun x => !x.1) && (backToKw cpos (keywordEach [] X.env)).all (fun x => x.1.isSome) && decide ([e].length + ([] : List Keyword).length + (if ([] : List Keyword).isEmpty then 0 else 1) < 30)) = true := by rfl)
    (hs : starEach [e] X.env = (false, eval e X.env) :: starEach [] X.env := by rfl) (hline : (apos.endLine == cpos.line) = true := by rfl) (hplain : (backTo cpos (starEach [] X.env)).any (·.1) = false := by rfl) :
    TrE X (.Call (.Attribute o "join" apos) [e] [] cpos) (fMeth gJoin fa fr) := .of (pe_bm PySem.F.plainAttrs_str PySem.F.slot_str_join PySem.F.type_str_join mt_join pe_w pa_w hbase hfew hline hs hplain) (ref_strM (fun G H z vs ds s pr Q k o h => by
  match ds, pr, h with
  | [.list ds], pr, h =>
    obtain ⟨v, rfl, hv⟩ := pair1 pr
    obtain ⟨ys, rfl, h1, h2⟩ := strs_of h
    obtain ⟨q, xs, rfl, e1, r1⟩ := hv.lsts s
    exact ⟨z, q, ys, rfl, rfl, .inl (.inl (.inl (by rw [← r1.strs]; exact e1))), h1, o.val _ _ (.str _) h2⟩) ho ha)
end
def F_draw : FD := fun as k _ => ∃ m : Int, as = [.pot true, .dat (.int m)] ∧ 0 < m ∧ m < 1073741824 ∧ ∀ j : Int, 0 ≤ j → j < m → k (.dat (.int j))
def F_pot : FD := fun as k _ => ∃ (ns : List Int) (i : Nat), as = [.scr ns, .dat (.int i)] ∧ i < 100 ∧ k (.pot false)
theorem draw_of {K : PySem.W.Frag} {vs : List V} {H : Hp} {Q : VK} {EX : XK} (h : spT K 2 F_draw vs H Q EX) : ∃ (p : Addr) (m : Int), vs = [.ref p, .int m] ∧ Pot H p ∧ 0 < m ∧ m < 1073741824 ∧ ∀ H' d, But p H H' → Pot H' p → 0 ≤ d → d < m → Q (.int d) H' := by
  obtain ⟨G, as, k, x, _, s, ok, ⟨m, rfl, h1, h2, hk⟩, lk, _⟩ := h
  have hh := ok.hold
  cases hh with
  | cons a t =>
    cases t with
    | cons b t =>
      cases t
      obtain ⟨p, rfl, gp, st⟩ := a
      cases b
      refine ⟨p, m, rfl, st, h1, h2, fun H' d bt pt d0 d1 => lk (.dat (.int d)) G _ H' ⟨fun b o e => ?_, Ex.refl _, fun b o e => .inl e, kept_but bt (pot_mut st), fun q hq => ?_, ok.gno⟩ (.inl ⟨rfl, .int d⟩) (hk d d0 d1)⟩
      · exact bt b o (ne_of_none e gp) (s b o e)
      · cases List.mem_singleton.mp (show q ∈ [p] from hq)
        exact pt
theorem pot_of {K : PySem.W.Frag} {vs : List V} {H : Hp} {Q : VK} {EX : XK} (h : spT K 2 F_pot vs H Q EX) : ∃ (a : Addr) (ns : List Int) (k : Nat), vs = [.ref a, .int k] ∧ SqL K H a (ns.map V.int) ∧ k < 100 ∧ ∀ H' p, Same H H' → H p = none → Pot H' p → Q (.ref p) H' := by
  obtain ⟨G, as, k, x, _, s, ok, ⟨ns, i, rfl, h1, hk⟩, lk, _⟩ := h
  have hh := ok.hold
  cases hh with
  | cons a t =>
    cases t with
    | cons b t =>
      cases t
      obtain ⟨p, rfl, sq⟩ := a
      cases b
      refine ⟨p, ns, i, rfl, ex_l s sq, h1, fun H' q sm nq pt => lk (.pot false) G _ H' ⟨fun b o e => sm b o (s b o e), Ex.refl _, fun b o e => .inl e, kept_same sm, (fun q hq => nomatch (show q ∈ ([] : List Addr) from hq)), ok.gno⟩ (.inr ⟨rfl, rfl, q, rfl, ?_, pt, nq⟩) hk⟩
      cases e : G q with
      | none => rfl
      | some o =>
        rw [s q o e] at nq
        cases nq
end Tr
set_option Elab.async false
set_option linter.all false
set_option maxRecDepth 100000
namespace Tr
open PySem PySem.Spec PyProof.Rows L2 Evl Kc Kz Kx
theorem forF_by {g : FG} {fb : FS} {N : EndsT} {x : KX} (I : Nat → S → Prop) {ds : List D} (step : ∀ (i : Nat) (d : D) (ρ : S), ds[i]? = some d → I i ρ → ∀ C : S → Prop, (∀ ρ', I (i + 1) ρ' → C ρ') → g d ρ fun ρ1 => fb ρ1 { N with nx := C, ct := C, bk := N.nx } x)
    (done : ∀ ρ, I ds.length ρ → N.nx ρ) {ρ : S} (h : I 0 ρ) : forF g fb ds ρ N x := by
  have key : ∀ (n : Nat) (i : Nat) (ρ : S), i + n = ds.length → I i ρ → forF g fb (ds.drop i) ρ N x := fun n => by
    induction n with
    | zero =>
      intro i ρ e h
      rw [List.drop_of_length_le (by omega)]
      exact done ρ (by rw [← e]; exact h)
    | succ n ih =>
      intro i ρ e h
      have hi : i < ds.length := by omega
      rw [List.drop_eq_getElem_cons hi]
      exact step i ds[i] ρ (List.getElem?_eq_getElem hi) h _ fun ρ' h' => ih (i + 1) ρ' (by omega) h'
  exact key ds.length 0 ρ (by omega) h
theorem lcF_by {vs : List Nat} {g : FG} {ft : FT} {fe : FE} {k : List D → S → Prop} (I : Nat → List D → S → Prop) {ds : List D}
    (step : ∀ (i : Nat) (d : D) (acc : List D) (ρ : S), ds[i]? = some d → I i acc ρ → ∀ C : List D → S → Prop, (∀ acc' ρ', I (i + 1) acc' ρ' → C acc' ρ') →
      g d (wipeA ρ vs) fun ρ2 => ft ρ2 (fun b ρ3 => if b = true then fe ρ3 (fun a ρ4 => fz a fun a' => datK a' fun r => acc.length < sizeLine ∧ C (acc ++ [r]) (backA ρ vs ρ4)) noX else C acc (backA ρ vs ρ3)) noX)
    (done : ∀ acc ρ, I ds.length acc ρ → k acc ρ) {ρ : S} (h : I 0 [] ρ) : lcF vs g ft fe ds [] ρ k := by
  have key : ∀ (n : Nat) (i : Nat) (acc : List D) (ρ : S), i + n = ds.length → I i acc ρ → lcF vs g ft fe (ds.drop i) acc ρ k := fun n => by
    induction n with
    | zero =>
      intro i acc ρ e h
      rw [List.drop_of_length_le (by omega)]
      exact done acc ρ (by rw [← e]; exact h)
    | succ n ih =>
      intro i acc ρ e h
      have hi : i < ds.length := by omega
      rw [List.drop_eq_getElem_cons hi]
      exact step i ds[i] acc ρ (List.getElem?_eq_getElem hi) h _ fun acc' ρ' h' => ih (i + 1) acc' ρ' (by omega) h'
  exact key ds.length 0 [] ρ (by omega) h
theorem rngD_get {lo : Int} {n i : Nat} {d : D} (h : (rngD lo n)[i]? = some d) : i < n ∧ d = .int (lo + (i : Nat)) := by
  unfold rngD at h
  rw [List.getElem?_map] at h
  obtain ⟨j, hj, rfl⟩ := Option.map_eq_some_iff.mp h
  obtain ⟨hl, hj⟩ := List.getElem?_eq_some_iff.mp hj
  rw [List.getElem_range] at hj
  rw [List.length_range] at hl
  subst hj
  exact ⟨hl, rfl⟩
theorem rngD_len {lo : Int} {n : Nat} : (rngD lo n).length = n := by unfold rngD; rw [List.length_map, List.length_range]
theorem atI_get {α : Type} {xs : List α} {i : Int} (h0 : 0 ≤ i) (h1 : i < xs.length) : ∃ n v, i = (n : Nat) ∧ xs[n]? = some v ∧ atI xs i = some v := by
  obtain ⟨n, rfl⟩ : ∃ n : Nat, i = n := ⟨i.toNat, by omega⟩
  have hn : n < xs.length := by omega
  exact ⟨n, xs[n], rfl, List.getElem?_eq_getElem hn, atI_nat (List.getElem?_eq_getElem hn)⟩
end Tr
namespace Tr
open PySem PySem.Spec PyProof.Rows L2 Evl Kc Kz Kx
/-- a slot that may be given a new value -/
def Free (ρ : S) (i : Nat) : Prop := ∀ b, ρ[i]? = some (some b) → b.isPar = false
theorem put_mk {ρ : S} {i : Nat} {a : AV} {k : S → Prop} (f : Free ρ i) (np : a.isPar = false) (na : ∀ j, a ≠ .at j) (h : k (ρ.set i (some a))) : putK i a ρ k := by
  unfold putK
  split
  · rename_i e; cases f _ e
  · rename_i e; cases f _ e
  · cases a with
    | own b d => cases b <;> first | exact h | cases np
    | pot b => cases b <;> first | exact h | cases np
    | «at» j => exact absurd rfl (na j)
    | _ => exact h
theorem put_dat {ρ : S} {i : Nat} {d : D} {k : S → Prop} (f : Free ρ i) (h : k (ρ.set i (some (.dat d)))) : gN i d ρ k := put_mk f rfl (fun _ => nofun) h
end Tr
set_option Elab.async false
set_option linter.all false
set_option maxRecDepth 100000
set_option maxHeartbeats 1000000
namespace Zn
open PySem PySem.Spec PyProof.Rows
structure Col where
  it : Addr
  fp : List Addr
  n : Nat
  P : Nat → Value → Prop
  St : Nat → Heap → Prop
abbrev IsRow (h : Heap) (T : Addr) (xs : Array Value) : Prop := h.get? T = some { cls := .type "tuple", data := .seq xs }
/-- the cells of a zip lie apart -/
structure Apart (z TI TO : Addr) (cs : List Col) : Prop where
  tz : TI ≠ z
  oz : TO ≠ z
  io : TI ≠ TO
  it : ∀ c ∈ cs, TI ≠ c.it
  me : ∀ c ∈ cs, c.it ∈ c.fp
  zf : ∀ c ∈ cs, z ∉ c.fp
  tf : ∀ c ∈ cs, TO ∉ c.fp
  two : ∀ (j k : Nat) (c d : Col), j ≠ k → cs[j]? = some c → cs[k]? = some d → c.it ∉ d.fp
theorem loop {τ : Type} {f : Value × Nat → τ → Sem (ForInStep τ)} {b : τ} {M : Model} {A : Around} {E : Value → Shared → Prop} (J : Nat → Shared → Prop) : ∀ (vs : List Value) (k0 : Nat)
    (step : ∀ (k : Nat) (v : Value) (s : Shared), vs[k]? = some v → J (k0 + k) s → wpAny M A (f (v, k0 + k) b) (fun r s' => r = .yield b ∧ J (k0 + k + 1) s') E s) (s : Shared), J k0 s →
    wpAny M A (forIn (vs.zipIdx k0) b f) (fun r s' => r = b ∧ J (k0 + vs.length) s') E s
  | [], k0, _, s, h => by
    simp only [List.zipIdx_nil, List.forIn_nil]
    exact wpAny_pure ⟨rfl, h⟩
  | v :: vs, k0, step, s, h => by
    simp only [List.zipIdx_cons, List.forIn_cons]
    refine wpAny_bind (wpAny_mono (step 0 v s rfl h) (fun r s' q => ?_) fun _ _ q => q)
    obtain ⟨rfl, q⟩ := q
    have := loop (M := M) (A := A) (f := f) (b := b) (E := E) J vs (k0 + 1) (fun k v s e hj => ?_) s' q
    · rw [List.length_cons, show k0 + (vs.length + 1) = k0 + 1 + vs.length by omega]
      exact this
    · have st := step (k + 1) v s e (by rw [show k0 + (k + 1) = k0 + 1 + k by omega]; exact hj)
      rw [show k0 + (k + 1) = k0 + 1 + k by omega] at st
      exact st
section
variable {prog : Program} {w : World} {A : Around} {E : Value → Shared → Prop} {s : Shared} {z TI TO : Addr} {cs : List Col} {i : Nat}
/-- what holds ahead of the k-th draw of turn i; s0: the state at the turn's begin -/
def Now (z TI TO : Addr) (cs : List Col) (i : Nat) (s0 : Shared) (k : Nat) (s : Shared) : Prop :=
  ∃ (arr : Array Value) (h : Heap) (tk : Nat), s = { s0 with heap := h, toks := tk } ∧ arr.size = cs.length ∧ IsRow h TO arr ∧ IsZip h z TI TO .ellipsis ∧ h.objs.size = s0.heap.objs.size ∧
    (∀ (j : Nat) (c : Col), cs[j]? = some c → (j < k → i < c.n ∧ (∃ x, arr[j]? = some x ∧ c.P i x) ∧ c.St (i + 1) h) ∧ (k ≤ j → c.St i h)) ∧
    ∀ b o, b ≠ z → b ≠ TO → (∀ c ∈ cs, b ≠ c.it) → s0.heap.get? b = some o → h.get? b = some o
theorem next {Q : Value → Shared → Prop} (S : Apart z TI TO cs) (few : cs.length ≤ 1000) (ne : cs ≠ []) (D : ∀ c ∈ cs, Draws prog w A c.it c.fp c.n c.P c.St) (hz : IsZip s.heap z TI TO .none) (hTI : IsRow s.heap TI (cs.map fun c => Value.ref c.it).toArray)
    (a : Array Value) (ha : a.size = cs.length) (hTO : IsRow s.heap TO a) (st : ∀ c ∈ cs, c.St i s.heap) (le : ∀ c ∈ cs, i ≤ c.n)
    (hQ : (∀ c ∈ cs, i < c.n) → ∀ (arr : Array Value) h' tk, arr.size = cs.length → (∀ (j : Nat) (c : Col), cs[j]? = some c → (∃ x, arr[j]? = some x ∧ c.P i x) ∧ c.St (i + 1) h') → IsZip h' z TI TO (rawInt s.heap.objs.size) → IsRow h' TO arr → IsRow h' s.heap.objs.size arr →
      h'.objs.size = s.heap.objs.size + 1 → (∀ b o, b ≠ z → b ≠ TO → (∀ c ∈ cs, b ≠ c.it) → s.heap.get? b = some o → h'.get? b = some o) → Q (.ref s.heap.objs.size) { s with heap := h', toks := tk })
    (hE : (∃ c ∈ cs, i = c.n) → ∀ h' tk e, (∀ b o, b ≠ z → b ≠ TO → (∀ c ∈ cs, b ≠ c.it) → s.heap.get? b = some o → h'.get? b = some o) → (∃ o, h'.get? e = some o ∧ o.cls = .type "StopIteration") → E (.ref e) { s with heap := h', toks := tk }) :
    wpAny (model prog w) A (Builtin.«zip.__next__» ⟨[.ref z], []⟩) (fun o t => ∃ v, o = .done (.ret v) ∧ Q v t) E s := by
  rcases s with ⟨hp, g, d, tk0, os⟩
  obtain ⟨c0, cs', rfl⟩ : ∃ c0 cs', cs = c0 :: cs' := by
    cases cs with
    | nil => exact absurd rfl ne
    | cons c cs => exact ⟨c, cs, rfl⟩
  change wpAny _ _ (field (.ref z) 2 >>= _) _ _ _
  refine wpAny_bind (wpAny_field hz rfl (x := .bool false) (by rfl) ?_)
  change wpAny _ _ (field (.ref z) 3 >>= _) _ _ _
  refine wpAny_bind (wpAny_field hz rfl (x := .ref TI) (by rfl) ?_)
  refine wpAny_bind (wpAny_seqItems hTI (by rfl) ?_)
  change wpAny _ _ (Builtin.SmallTypes.ownedTupleIsFree (.ref z) >>= _) _ _ _
  apply wpAny_bind; unfold Builtin.SmallTypes.ownedTupleIsFree
  refine wpAny_bind (wpAny_field hz rfl (x := .none) (by rfl) (wpAny_pure ?_))
  simp only [if_true]
  refine wpAny_bind (wpAny_rule (wpAny_bind (wpAny_field hz rfl (x := .ref TO) (by rfl) ?_)))
  refine wpAny_bind (wpAny_setField_rec hz (by simp) fun g0 za sa => ?_)
  have hz0 : IsZip g0 z TI TO .ellipsis := za
  have hs0 : Heap.SameBut z hp g0 := sa
  have mem : ∀ {j : Nat} {c : Col}, (c0 :: cs')[j]? = some c → c ∈ c0 :: cs' := fun h => List.mem_of_getElem? h
  have over : ∀ {c : Col} {m : Nat} {h h' : Heap} {x : Addr}, c ∈ c0 :: cs' → c.St m h → Heap.SameBut x h h' → x ∉ c.fp → c.St m h' := fun hc a b e => Draws.over (D _ hc) a b e
  refine wpAny_bind (wpAny_mono (loop (Now z TI TO (c0 :: cs') i ⟨hp, g, d, tk0, os⟩) _ 0 (fun k v s e hj => ?_) _ ?_) (fun r s' q => ?_) fun _ _ q => q)
  · -- one draw
    rw [Nat.zero_add] at hj ⊢
    obtain ⟨arr, h, tk, rfl, as, row, hzz, hsz, hst, keep⟩ := hj
    obtain ⟨c, hc, rfl⟩ : ∃ c, (c0 :: cs')[k]? = some c ∧ v = .ref c.it := by
      rw [List.getElem?_map] at e
      obtain ⟨c, h1, h2⟩ := Option.map_eq_some_iff.mp e
      exact ⟨c, h1, h2.symm⟩
    have hm := mem hc
    have kn : k < arr.size := by rw [as]; exact (List.getElem?_eq_some_iff.mp hc).1
    have hci := (hst k c hc).2 (Nat.le_refl k)
    have zi : z ≠ c.it := fun q => S.zf c hm (by rw [q]; exact S.me c hm)
    have ti : TO ≠ c.it := fun q => S.tf c hm (by rw [q]; exact S.me c hm)
    refine wpAny_bind (wpAny_onRaise ?_)
    show wpAny _ _ (Builtin.SmallTypes.nextOf (.ref c.it) >>= _) _ _ _
    by_cases hlt : i < c.n
    · refine wpAny_bind ((D c hm).item i _ _ _ hlt hci fun x p1 tk1 hx sn hp1 => wpAny_pure ?_)
      have hp1 : Heap.SameBut c.it h p1 := hp1
      have row1 : IsRow p1 TO arr := hp1.extBut _ _ ti row
      refine wpAny_bind (wpAny_seqItems (s := ⟨p1, g, d, tk1, os⟩) row1 (by rfl) ?_)
      refine wpAny_bind (wpAny_updateSeq (s := ⟨p1, g, d, tk1, os⟩) row1 (by rfl) ?_ (Nat.le_of_lt (L2.small1000 (by rw [as]; exact few))) (by rw [Array.size_setIfInBounds]; exact Nat.le_succ_of_le (Nat.le_of_lt (L2.small1000 (by rw [as]; exact few)))))
      have sb : Heap.SameBut TO p1 (p1.update TO (Obj.mapSeq (·.setIfInBounds k x))) := Heap.SameBut.update ..
      have row2 : IsRow (p1.update TO (Obj.mapSeq (·.setIfInBounds k x))) TO (arr.setIfInBounds k x) := by
        show (p1.update TO _).get? TO = _
        rw [Heap.get?_update_self _ row1 rfl]
        simp [Obj.mapSeq]
      generalize p1.update TO (Obj.mapSeq (·.setIfInBounds k x)) = g1 at sb row2 ⊢
      refine wpAny_bind (wpAny_letGo (wpAny_pure ⟨rfl, arr.setIfInBounds k x, g1, tk1, rfl, by rw [Array.size_setIfInBounds]; exact as, row2, ?_, ?_, fun j c' hc' => ?_, fun b o b1 b2 b3 e => ?_⟩))
      · exact sb.extBut _ _ S.oz.symm (hp1.extBut _ _ zi hzz)
      · rw [sb.1, hp1.1, hsz]
      · have hm' := mem hc'
        refine ⟨fun hj => ?_, fun hj => ?_⟩
        · by_cases ejk : j = k
          · subst ejk
            rw [hc] at hc'
            cases hc'
            refine ⟨hlt, ⟨x, ?_, hx⟩, over hm sn sb (S.tf c hm)⟩
            rw [Array.getElem?_setIfInBounds_self_of_lt kn]
          · obtain ⟨lj, ⟨y, hy, py⟩, sy⟩ := (hst j c' hc').1 (by omega)
            refine ⟨lj, ⟨y, ?_, py⟩, over hm' (over hm' sy hp1 (S.two k j c c' (fun q => ejk q.symm) hc hc')) sb (S.tf c' hm')⟩
            rw [Array.getElem?_setIfInBounds_ne (fun q => ejk q.symm)]
            exact hy
        · have nj : k ≠ j := by omega
          exact over hm' (over hm' ((hst j c' hc').2 (by omega)) hp1 (S.two k j c c' nj hc hc')) sb (S.tf c' hm')
      · exact sb.extBut _ _ b2 (hp1.extBut _ _ (b3 c hm) (keep b o b1 b2 b3 e))
    · have hi : i = c.n := by have := le c hm; omega
      refine wpAny_bind ((D c hm).done _ _ _ (by rw [← hi]; exact hci) fun q e hq he => ?_)
      have hq : Heap.ExtBut c.it h q := hq
      obtain ⟨oe, hoe, hce⟩ := he
      have hoe : q.get? e = some oe := hoe
      have hzq : IsZip q z TI TO .ellipsis := hq _ _ zi hzz
      have hez : e ≠ z := fun q => by rw [q, hzq] at hoe; cases hoe; simp at hce
      refine wpAny_setField_rec (s := ⟨q, g, d, tk, os⟩) hzq (by simp) fun q' _ hq' => ?_
      have hq' : Heap.SameBut z q q' := hq'
      exact hE ⟨c, hm, hi⟩ q' tk e (fun b o b1 b2 b3 x => hq'.extBut _ _ b1 (hq _ _ (b3 c hm) (keep b o b1 b2 b3 x))) ⟨oe, hq'.extBut _ _ hez hoe, hce⟩
  · -- the begin
    refine ⟨a, g0, tk0, rfl, ha, hs0.extBut _ _ S.oz hTO, hz0, hs0.1, fun j c hc => ⟨fun q => absurd q (Nat.not_lt_zero j), fun _ => over (mem hc) (st c (mem hc)) hs0 (S.zf c (mem hc))⟩, fun b o b1 _ _ e => hs0.extBut _ _ b1 e⟩
  · -- behind the last draw
    obtain ⟨rfl, arr, h, tk, rfl, as, row, hzz, hsz, hst, keep⟩ := q
    have last : ∀ (j : Nat) (c : Col), (c0 :: cs')[j]? = some c → i < c.n ∧ (∃ x, arr[j]? = some x ∧ c.P i x) ∧ c.St (i + 1) h := fun j c hc => (hst j c hc).1 (by
      have := (List.getElem?_eq_some_iff.mp hc).1
      rw [Nat.zero_add, List.length_map]
      exact this)
    refine wpAny_bind (wpAny_seqItems (s := ⟨h, g, d, tk, os⟩) row (by rfl) ?_)
    have big := Nat.le_of_lt (L2.small1000 (show arr.size ≤ 1000 by rw [as]; exact few))
    refine wpAny_bind (wpAny_newTuple ?_ (hsz := by rw [Array.length_toList]; exact big))
    have zl : z < h.objs.size := Heap.lt_size hzz
    show wpAny _ _ (Builtin.SmallTypes.ownedTupleHandOut (.ref z) (.ref h.objs.size) >>= _) _ _ ⟨h.push { cls := .type "tuple", data := .seq arr.toList.toArray }, g, d, tk, os⟩
    rw [show arr.toList.toArray = arr from by simp]
    apply wpAny_bind; unfold Builtin.SmallTypes.ownedTupleHandOut
    have zp : IsZip (h.push { cls := .type "tuple", data := .seq arr }) z TI TO .ellipsis := Heap.get?_push_of_some _ hzz
    refine wpAny_bind (wpAny_setField_rec zp (by simp) fun u zu su => ?_)
    have zu : IsZip u z TI TO (rawInt h.objs.size) := zu
    refine wpAny_setField_rec zu (by simp) fun y zy sy => ?_
    have zy : IsZip y z TI TO (rawInt h.objs.size) := zy
    have su : Heap.SameBut z (h.push { cls := .type "tuple", data := .seq arr }) u := su
    have sy : Heap.SameBut z u y := sy
    have lift : ∀ b o, b ≠ z → h.get? b = some o → y.get? b = some o := fun b o b1 e => sy.extBut _ _ b1 (su.extBut _ _ b1 (Heap.get?_push_of_some _ e))
    have newRow : IsRow y h.objs.size arr := sy.extBut _ _ (Nat.ne_of_gt zl) (su.extBut _ _ (Nat.ne_of_gt zl) (Heap.get?_push_size _ rfl))
    have ysz : y.objs.size = h.objs.size + 1 := by rw [sy.1, su.1, Heap.size_push]
    have hsz : h.objs.size = hp.objs.size := hsz
    rw [hsz] at zy newRow ysz
    apply wpAny_pure; refine ⟨_, rfl, ?_⟩
    show Q (.ref h.objs.size) ⟨y, g, d, tk, os⟩
    rw [hsz]
    refine hQ (fun c hc => ?_) arr y tk as (fun j c hc => ⟨(last j c hc).2.1, ?_⟩) zy (lift _ _ S.oz row) newRow ysz fun b o b1 b2 b3 e => lift b o b1 (keep b o b1 b2 b3 e)
    · obtain ⟨j, hj⟩ := List.mem_iff_getElem?.mp hc
      exact (last j c hj).1
    · exact (D c (mem hc)).frame _ _ _ (last j c hc).2.2 fun b hb o e => lift b o (fun q => S.zf c (mem hc) (q ▸ hb)) e
end
end Zn
set_option Elab.async false
set_option linter.all false
set_option maxRecDepth 100000
set_option maxHeartbeats 1000000
namespace Zn
open PySem PySem.Spec PyProof.Rows L2
/-- a list (true) or a tuple at a, its iterator, its items -/
structure Cl where
  lst : Bool
  a : Addr
  it : Addr
  vals : Array Value
def Cl.col (c : Cl) : Col :=
  match c.lst with
  | true => ⟨c.it, [c.it, c.a], c.vals.size, fun i v => c.vals[i]? = some v, fun i h => h.IsListIter c.it c.a i ∧ h.IsList c.a c.vals⟩
  | false => ⟨c.it, [c.it, c.a], c.vals.size, fun i v => c.vals[i]? = some v, fun i h => h.IsTupleIter c.it c.a i ∧ h.IsTuple c.a c.vals⟩
theorem Cl.it_eq (c : Cl) : c.col.it = c.it := by obtain ⟨l, _, _, _⟩ := c; cases l <;> rfl
theorem Cl.fp_eq (c : Cl) : c.col.fp = [c.it, c.a] := by obtain ⟨l, _, _, _⟩ := c; cases l <;> rfl
theorem vals_at : ∀ {row : List V} {us : List Value}, row.length = us.length → (∀ (j : Nat) (x : V) (u : Value), row[j]? = some x → us[j]? = some u → RelV x u) → Vals row us
  | [], [], _, _ => .nil
  | x :: row, u :: us, l, h => .cons (h 0 x u rfl rfl) (vals_at (Nat.succ.inj l) fun j x u e f => h (j + 1) x u e f)
/-- how the cells of the zip lie -/
structure Lie (z TI TO : Addr) (cols : List (Bool × Addr)) (its : List Addr) : Prop where
  tz : TI ≠ z
  oz : TO ≠ z
  io : TI ≠ TO
  nd : its.Nodup
  it : ∀ b ∈ its, TI ≠ b ∧ TO ≠ b ∧ z ≠ b
  sq : ∀ c ∈ cols, c.2 ≠ z ∧ c.2 ≠ TO ∧ ∀ b ∈ its, c.2 ≠ b
theorem Lie.apart {z TI TO : Addr} {cls : List Cl} (S : Lie z TI TO (cls.map fun c => (c.lst, c.a)) (cls.map (·.it))) : Apart z TI TO (cls.map Cl.col) := by
  have mi : ∀ {c : Cl}, c ∈ cls → c.it ∈ cls.map (·.it) := fun h => List.mem_map.mpr ⟨_, h, rfl⟩
  have ms : ∀ {c : Cl}, c ∈ cls → (c.lst, c.a) ∈ cls.map fun c => (c.lst, c.a) := fun h => List.mem_map.mpr ⟨_, h, rfl⟩
  have un : ∀ {d : Col}, d ∈ cls.map Cl.col → ∃ c ∈ cls, c.col = d := fun h => List.mem_map.mp h
  refine ⟨S.tz, S.oz, S.io, fun d h => ?_, fun d h => ?_, fun d h => ?_, fun d h => ?_, fun j k d e njk hj hk => ?_⟩
  · obtain ⟨c, hc, rfl⟩ := un h
    rw [c.it_eq]
    exact (S.it _ (mi hc)).1
  · obtain ⟨c, hc, rfl⟩ := un h
    rw [c.it_eq, c.fp_eq]
    exact List.mem_cons_self
  · obtain ⟨c, hc, rfl⟩ := un h
    rw [c.fp_eq]
    intro q
    simp only [List.mem_cons, List.not_mem_nil, or_false] at q
    rcases q with q | q
    · exact (S.it _ (mi hc)).2.2 q
    · exact (S.sq _ (ms hc)).1 q.symm
  · obtain ⟨c, hc, rfl⟩ := un h
    rw [c.fp_eq]
    intro q
    simp only [List.mem_cons, List.not_mem_nil, or_false] at q
    rcases q with q | q
    · exact (S.it _ (mi hc)).2.1 q
    · exact (S.sq _ (ms hc)).2.1 q.symm
  · rw [List.getElem?_map] at hj hk
    obtain ⟨c, hc, rfl⟩ := Option.map_eq_some_iff.mp hj
    obtain ⟨c', hc', rfl⟩ := Option.map_eq_some_iff.mp hk
    rw [c.it_eq, c'.fp_eq]
    intro q
    simp only [List.mem_cons, List.not_mem_nil, or_false] at q
    rcases q with q | q
    · have h1 : (cls.map (·.it))[j]? = some c.it := by rw [List.getElem?_map, hc]; rfl
      have h2 : (cls.map (·.it))[k]? = some c.it := by rw [List.getElem?_map, hc', q]; rfl
      exact njk ((List.getElem?_inj (List.getElem?_eq_some_iff.mp h1).1 S.nd).mp (h1.trans h2.symm))
    · exact (S.sq _ (ms (List.mem_of_getElem? hc'))).2.2 _ (mi (List.mem_of_getElem? hc)) q.symm
end Zn
set_option Elab.async false
set_option linter.all false
set_option maxRecDepth 100000
set_option maxHeartbeats 4000000
namespace Zn
open PySem PySem.Spec PyProof.Rows L2 Evl
abbrev h4 (h : Heap) (o1 o2 o3 o4 : Obj) : Heap := (((h.push o1).push o2).push o3).push o4
end Zn
set_option Elab.async false
set_option linter.all false
set_option maxRecDepth 100000
set_option maxHeartbeats 1000000
namespace Zn
open PySem PySem.Spec PyProof.Rows L2 Evl Tr
end Zn
namespace Tr
open PySem PySem.Spec PyProof.Rows L2 Evl Kc Kz Kx Zn
end Tr
set_option Elab.async false
set_option linter.all false
set_option maxRecDepth 100000
namespace Tr
open PySem PySem.Spec PyProof.Rows L2 Evl Kc Kz Kx
abbrev FJ := List AV → (D → Prop) → (Exn → Prop) → Prop
/-- __init__ of a class with one field fl, set last -/
def spI (K : PySem.W.Frag) (C : Addr) (fl : Str) (n : Nat) (F : FJ) : Sp := fun vs H Q EX => ∃ (p dx : Addr) (us : List V) (G : Hp) (as : List AV) (k : D → Prop) (x : Exn → Prop), vs = .ref p :: us ∧ as.length = n ∧ Ex G H ∧ G p = none ∧ H p = some (.ins C dx []) ∧ ArgOk K G H as us ∧ F as k x ∧
  (∀ d v G' H', Ex G' H' → Ex G G' → (∀ b o, G' b = some o → G b = some o ∨ H b = none) → Kept (TN K) (p :: potPs as us) H H' → (∀ b qs, G' b ≠ some (.tbl qs)) → (∀ q ∈ potPs as us, Pot H' q) → G' p = none → H' p = some (.ins C dx [(fl, v)]) → Rp K G' v d → k d → Q .non H') ∧
  (∀ c G' dd H', Ex G' H' → Ex G G' → (∀ b o, G' b = some o → G b = some o ∨ H b = none) → Kept (TN K) (p :: potPs as us) H H' → (∀ b qs, G' b ≠ some (.tbl qs)) → (∀ q ∈ potPs as us, Pot H' q) → XRes K G' c dd → x c → EX (.ref c.cls) (some dd) H')
def RefL (X : Cx) (p C dx : Addr) (fl : Str) (t : TS) (f : S → (D → Prop) → KX → Prop) : Prop := ∀ (W : WX) (E : Ent) (ρ : S) (G : Hp) (σ : L2.St) (H : Hp) (M : Ends) (k : D → Prop) (x : KX), TakesT X W E → Rel X.K E ρ G σ H → E.F p = some (.ins C dx []) → LkX X.K E x W →
  (∀ d v ρ' G' σ' H', Ex G G' → Rel X.K E ρ' G' σ' H' → Rp X.K G' v d → k d → M.nx σ' (upd H' p (.ins C dx [(fl, v)]))) → f ρ k x → t M σ H
def TrL (X : Cx) (p C dx : Addr) (fl : Str) (st : List Stmt) (f : S → (D → Prop) → KX → Prop) : Prop := RefL X p C dx fl (wB X st) f
def lCons (fs : FS) (fr : S → (D → Prop) → KX → Prop) : S → (D → Prop) → KX → Prop := fun ρ k x => fs ρ { nx := fun ρ' => fr ρ' k x, rt := fun _ _ => False } x
def lOne (p : Addr) (fe : FE) : S → (D → Prop) → KX → Prop := fun ρ k x => fe ρ (fun a ρ1 => ρ1[0]? = some (some (.raw (.ref p))) ∧ fz a fun a' => datK a' k) x
section
variable {X : Cx} {p C dx : Addr} {fl : Str} {st : Stmt} {rest : List Stmt} {fs : FS} {fr : S → (D → Prop) → KX → Prop} {fe : FE} {e : Expr} {pos pos' p0 : Pos} {nm : Str}
theorem tl_cons (h : TrS X st fs) (hr : TrL X p C dx fl rest fr) : TrL X p C dx fl (st :: rest) (lCons fs fr) := fun W E ρ G σ H M k x tk R hF lx lk hf pins s I =>
  (pss_cons (ps_w (X := X) (st := st)) (pb_w (X := X) (st := rest))).run pins s σ H M I (h W E ρ G σ H _ { nx := fun ρ' => fr ρ' k x, rt := fun _ _ => False } x tk R lx ⟨fun ρ' G' σ' H' e1 R1 h1 => hr W E ρ' G' σ' H' M k x tk R1 hF lx (fun d v ρ2 G2 σ2 H2 e2 => lk d v ρ2 G2 σ2 H2 (e1.trans e2)) h1, fun _ _ _ _ _ _ _ _ _ z => z.elim, fun _ _ _ _ _ _ z => z.elim, fun _ _ _ _ _ _ z => z.elim⟩ hf)
theorem tl_one (c : Cls X.K C) (na : NoAttr X.K C fl) (hv : TrE X e fe) (ps : PE X (.Name nm p0) (tVar 0)) (hs : swapsWith e (some (.Attribute (.Name nm p0) fl pos')) pos.line X.env = pure false := by rfl) : TrL X p C dx fl [.Assign [.Attribute (.Name nm p0) fl pos'] e pos] (lOne p fe) := fun W E ρ G σ H M k x tk R hF lx lk hf pins s I => by
  refine (pss_one (ps_fld ps (pe_w (X := X) (e := e)) hs)).run pins s σ H M I ?_
  refine hv W E ρ G σ H _ _ x tk R lx (fun a ρ1 G1 v H1 e1 R1 q1 h1 => ?_) hf
  obtain ⟨h0, h1⟩ := h1
  obtain ⟨a', G2, no, e2, R2, q2, h1⟩ := q1.fz R1 h1
  obtain ⟨d, rd, hk⟩ := q2.datK h1
  obtain ⟨u, eu, hu⟩ := R2.slot 0 _ h0
  cases (show u = .ref p from hu)
  exact ⟨_, eu, p, C, dx, [], rfl, (R2.frm p _ hF).1, c, na, by decide, lk d v ρ1 G2 σ H1 (e1.trans e2) R2 rd hk⟩
end
section
variable {K : PySem.W.Frag} {mg : Str → Option Value} {P : Program} {base : Heap} {w : World}
theorem fnInit {nm qual : Str} {st : Stmt} {f C : Addr} {fd : FuncData} {N ps : List Str} {self fl : Str} {k : Nat} {F : FJ} {fb : Addr → S → (D → Prop) → KX → Prop} (Fn : Fun K nm qual st f fd) (S : FnScope N (self :: ps) (defScope st))
    (body : ∀ (p dx : Addr) (cdv : Value) (A : Around) (outer : List Env) (s : Shared) (H : Hp) (E : XK), Room k (A.deeper (envOfC qual (defScope st) s.heap.objs.size f cdv)) → TrL (cxOf (L2.CX P w) P w K mg base N qual (defScope st) f cdv A outer s H E) p C dx fl (defBody st) (fb p))
    (imp : ∀ p as k x, as.length = ps.length → F as k x → fb p (start0 N.length (.raw (.ref p) :: as)) k fun c _ => x c) :
    FnOk P w K mg base (L2.CX P w) (k + 1) f fd (self :: ps) (spI K C fl ps.length F) := by
  have pln : ps.length + 1 ≤ N.length := by
    have := congrArg List.length S.pre
    rw [List.length_take, List.length_cons] at this
    omega
  refine Fn.okX S (fun vs H Q E h => ?_) fun cdv A outer s H vs Q E room want => ⟨_, pb_w, ?_⟩
  · obtain ⟨p, dx, us, G, as, k, x, rfl, h1, _, _, _, h2, _⟩ := h
    rw [List.length_cons, List.length_cons, ← h1, Paired.length h2.hold]
  · obtain ⟨p, dx, us, G, as, k, x, rfl, h1, h2, gp, hp, h3, h4, h5, h6⟩ := want
    have ul : us.length = as.length := (Paired.length h3.hold).symm
    have vl : (V.ref p :: us).length ≤ N.length := by
      rw [List.length_cons, ul, h1]
      exact pln
    have ok : ArgOk K G H (.raw (.ref p) :: as) (.ref p :: us) := by
      refine ⟨.cons rfl h3.hold, fun a ha o => ?_, fun i j a b v n ha hb oa ob va vb => ?_, h3.gno⟩
      · obtain rfl | ha := List.mem_cons.mp ha
        · cases o
        · exact h3.pots a ha o
      · cases i with
        | zero => cases Option.some.inj ha; cases oa
        | succ i =>
          cases j with
          | zero => cases Option.some.inj hb; cases ob
          | succ j => exact h3.apart i j a b v (fun z => n (by rw [z])) ha hb oa ob va vb
    have R0 := rel_start (N := N) h2 ok vl
    have lo : Loose (start0 N.length (.raw (.ref p) :: as)) (start N (.ref p :: us)) p := fun i a hi o z => by
      obtain ⟨v, ev, hh⟩ := R0.slot i a hi
      rw [z] at ev
      cases ev
      have hi := start_get hi
      have := ok.pots a (List.mem_of_getElem? hi) o
      subst this
      obtain ⟨q, eq, _, st⟩ := hh
      cases eq
      obtain ⟨x1, y1, _, _, _, e⟩ := (show Pot H p from st)
      rw [hp] at e
      cases e
    have R1 := R0.aside hp gp lo
    have pe : potPs (.raw (.ref p) :: as) (.ref p :: us) = potPs as us := rfl
    refine body p dx cdv A outer s H E room (fun cls d _ H => E cls d H) _ _ G _ H _ k (fun c _ => x c) ⟨takes_of rfl rfl rfl rfl, fun _ _ _ _ t => t⟩ R1 upd_same (fun c ρ' G' σ' dd H' R q hx => ?_) (fun d v ρ' G' σ' H' _ R rv hk => ?_) (imp p as k x h1 h4)
    · exact h6 c G' dd H' R.sub R.grow R.new (R.but.wider fun b h => List.mem_cons_of_mem _ h) R.gno R.live q hx
    · have fr := R.frm p _ upd_same
      have ne : ∀ {b : Addr} {o : HO}, G' b = some o → b ≠ p := fun e => ne_of_none e fr.2.1
      refine h5 d v G' _ (fun b o e => by rw [upd_ne (ne e)]; exact R.sub b o e) R.grow R.new ((R.but.wider fun b h => List.mem_cons_of_mem _ h).upd (.inl List.mem_cons_self) (mut_of fr.1 nofun nofun)) R.gno (fun q hq => ?_) fr.2.1 upd_same rv hk
      have pq := R.live q hq
      refine pot_at pq (upd_ne fun z => ?_)
      obtain ⟨x1, y1, _, _, _, e⟩ := pq
      rw [z, fr.1] at e
      cases e
end
def fMake (C : Addr) (fl : Str) (n : Nat) (F : FJ) (fr : FA) : FE := fun ρ k x => fr ρ (fun as ρ1 => argK ρ1 as fun bs w => w = false ∧ (bs.filter AV.isOwn).length = 0 ∧ bs.length = n ∧ F bs (fun d => k (.obj C [(fl, d)]) ρ1) fun _ => False) x
section
variable {X : Cx} {C f : Addr} {fd : FuncData} {ps : List Str} {self fl : Str} {k n : Nat} {F : FJ} {x : Str} {p pos : Pos} {e : Expr} {es : List Expr} {fr : FA}
theorem xe_make (M : Mk X.K C f) (Fn : FnOk X.prog X.w X.K X.mg X.base (L2.CX X.prog X.w) k f fd (self :: ps) (spI X.K C fl n F)) (hr : Room (k + 1) X.A) (hg : Gl X x) (hm : X.mg x = some (.ref C)) (hb : Binds X.K fd (self :: ps) []) (ha : TrA X (e :: es) fr) (hdb : (x == ("__debug__" : Str)) = false := by decide)
    (he : starEach (e :: es) X.env = (false, eval e X.env) :: starEach es X.env := by rfl) (hpl : (backTo pos (starEach es X.env)).any (·.1) = false := by rfl) : TrE X (.Call (.Name x p) (e :: es) [] pos) (fMake C fl n F fr) :=
  .of (pe_make M Fn hr hg hm hb .nil passL pa_w hdb he hpl) fun W E ρ G σ H Q k x tk R lx lk hf => by
  refine ha W E ρ G σ H _ _ x tk R lx (fun as ρ1 G1 vs H1 e1 R1 q1 h1 => fun q dx nq ndx ne => ?_) hf
  obtain ⟨bs, w, p1, p2, p3, p4, hw, no, hl, h1⟩ := argK_of R1 (Lent ρ1 σ as) (fun q z => z) (fun q z => by obtain ⟨i, b, d, _, z2, z3⟩ := z; exact ⟨i, b, d, z2, z3⟩) (lend_ex R1) q1 h1
  have same : lend (Lent ρ1 σ as) G1 H1 = G1 := funext fun q => lend_out (p4 hw q)
  rw [same] at p1
  have flat : ∀ a ∈ bs, a.isOwn = false := fun a hm => by
    cases o : a.isOwn with
    | false => rfl
    | true =>
      have := List.length_pos_of_mem (List.mem_filter.mpr ⟨hm, o⟩)
      omega
  have g0 := R1.g0 nq
  have gd := R1.g0 ndx
  have s1 : Ex H1 (upd (upd H1 dx (.own q)) q (.ins C dx [])) := fun b o h => by
    rw [upd_ne (ne_of_none h nq), upd_ne (ne_of_none h ndx)]
    exact h
  rw [List.append_nil]
  have hold : Paired (fun a v => Hold X.K G1 (upd (upd H1 dx (.own q)) q (.ins C dx [])) a v) bs vs := by
    have gen : ∀ {bs : List AV} {vs : List V}, (∀ a ∈ bs, a.isOwn = false) → Paired (fun a v => Hold X.K G1 H1 a v) bs vs → Paired (fun a v => Hold X.K G1 (upd (upd H1 dx (.own q)) q (.ins C dx [])) a v) bs vs := by
      intro bs vs fl pr
      induction pr with
      | nil => exact .nil
      | cons h t ih => exact .cons (h.still (Ex.refl _) (fl _ List.mem_cons_self)) (ih fun a ha => fl a (List.mem_cons_of_mem _ ha))
    exact gen flat p1
  have nops : potPs bs vs = [] := by
    cases z : potPs bs vs with
    | nil => rfl
    | cons y ys =>
      obtain ⟨j, b, h1, _⟩ := mem_potPs.mp (show y ∈ potPs bs vs by rw [z]; exact List.mem_cons_self)
      have := flat _ (List.mem_of_getElem? h1)
      cases this
  refine ⟨q, dx, vs, G1, bs, _, _, rfl, hl, R1.sub.trans s1, g0, upd_same, ⟨hold, (fun a ha o => by rw [flat a ha] at o; cases o), (fun i j a b v n h1 h2 o1 _ _ _ => by rw [flat a (List.mem_of_getElem? h1)] at o1; cases o1), R1.gno⟩, h1, fun d v G' H' sub grow new but gn _ gp hp rv hk => ⟨rfl, ?_⟩, fun c G' dd H' _ _ _ _ _ _ _ z => z.elim⟩
  rw [nops] at but
  -- the state behind the call
  have but' : Kept (TN X.K) [] H1 H' := (but.under s1).fresh nq
  have gnew : ∀ b o, G' b = some o → G1 b = some o ∨ H1 b = none := fun b o h => by
    rcases new b o h with y | y
    · exact .inl y
    · refine .inr ?_
      cases z : H1 b with
      | none => rfl
      | some o => rw [s1 b o z] at y; cases y
  have R2 : Rel X.K E ρ1 G' σ H' := by
    have gone : ∀ {b : Addr}, G1 b = none → H1 b ≠ none → G' b = none := fun {b} g h => by
      cases z : G' b with
      | none => rfl
      | some o =>
        rcases gnew b o z with y | y
        · rw [g] at y; cases y
        · exact absurd y h
    have at_ : ∀ {b : Addr}, H1 b ≠ none → Soft H1 b → H' b = H1 b := fun {b} h m => but'.keep nofun h m
    refine ⟨sub, R1.len, fun i a h => ?_, R1.apart, R1.mine, R1.par, R1.grow.trans grow, fun b o h => ?_, R1.but.then but' nofun, fun p hp => pot_at (R1.live p hp) (at_ (pot_some (R1.live p hp)) (pot_mut (R1.live p hp))), R1.h0p, fun b o h => ?_, R1.fno, gn⟩
    · obtain ⟨v, ev, hh⟩ := R1.slot i a h
      refine ⟨v, ev, ?_⟩
      cases ho : a.isOwn with
      | false => exact hh.still grow ho
      | true =>
        obtain ⟨p, rfl, gp, st⟩ := hh.own ho
        exact Hold.of_own ho (gone gp st.some) (st.mono grow (at_ st.some st.mut))
    · rcases gnew b o h with y | y
      · exact R1.new b o y
      · exact .inr (R1.h0 y)
    · obtain ⟨h1, h2, h3⟩ := R1.frm b o h
      exact ⟨but'.but b o nofun h1 (fun qs e => R1.fno b qs (by rw [h, e])), gone h2 (by rw [h1]; exact nofun), h3⟩
  obtain ⟨R3, e3⟩ := R2.freeze hp (R1.loose nq) gp ⟨R1.h0 nq, R1.f0 nq⟩
  exact lk (.obj C [(fl, d)]) ρ1 _ _ H' ((e1.trans grow).trans e3) R3 (.inr (.inl ⟨rfl, q, dx, _, rfl, upd_same, .cons ⟨rfl, rv.mono e3⟩ .nil⟩)) hk
end
def fM0 (C : Addr) (F : FD) (fa : FE) : FE := fun ρ k x => fa ρ (fun a ρ1 => match a with | .obj C' fs => C' = C ∧ F [.obj C' fs] (fun r => k r ρ1) fun _ => False | _ => False) x
section
variable {X : Cx} {C f : Addr} {fd : FuncData} {self m : Str} {k : Nat} {F : FD} {o e : Expr} {apos pos p : Pos} {fa : FE} {fr : FA}
theorem obj_sp {E : Ent} {ρ : S} {G H : Hp} {σ : L2.St} {a : Addr} {dx : Addr} {vs : List (Str × V)} {fs : List (Str × D)} {kk : KE} {Q : VK} (R : Rel X.K E ρ G σ H) (g : G a = some (.ins C dx vs)) (fl : Flds X.K G vs fs) (lk : LkE X.K E G σ kk Q) (h : F [.obj C fs] (fun r => kk r ρ) fun _ => False) : spT X.K 1 F [.ref a] H Q E0 := by
  refine ⟨G, [.obj C fs], _, _, rfl, R.sub, ⟨.cons ⟨a, dx, vs, rfl, g, fl⟩ .nil, fun b hb o => ?_, (fun i j b c v n h1 h2 o1 _ _ _ => ?_), R.gno⟩, h, fun r G' v H' po rr hk => ?_, fun _ _ _ _ _ _ z => z.elim⟩
  · cases List.mem_singleton.mp hb
    cases o
  · have := List.mem_singleton.mp (List.mem_of_getElem? h1)
    subst this
    cases o1
  · have R1 : Rel X.K E ρ G σ H := R
    obtain ⟨R2, e2⟩ := after_call (as := []) (bs := [.obj C fs]) (vs := [.ref a]) R1 (fun j hj => by cases j with | zero => cases Option.some.inj hj | succ j => cases j <;> cases hj) (fun b hb o => by cases List.mem_singleton.mp hb; cases o) (by
      rw [show lend (Lent ρ σ []) G H = G from funext fun q => lend_out fun l => by obtain ⟨_, _, _, z, _⟩ := l; cases z]
      exact po)
    have off : keepOff (Lent ρ σ []) G' = G' := funext fun q => off_out fun l => by obtain ⟨_, _, _, z, _⟩ := l; cases z
    rw [off] at R2 e2
    refine lk r ρ G' v H' e2 R2 ?_ hk
    rcases rr with ⟨no, hh⟩ | ⟨yo, np, q, rfl, gq, st, nq⟩
    · exact .inr (.inl ⟨no, hh⟩)
    · exact .inr (.inr ⟨yo, np, q, rfl, gq, st, ⟨R.h0 nq, R.f0 nq⟩, R.loose nq⟩)
theorem xe_meth0 (c : Cls X.K C) (hm : Meth X.K C m f) (Fn : FnOk X.prog X.w X.K X.mg X.base (L2.CX X.prog X.w) k f fd [self] (spT X.K 1 F)) (hr : Room k X.A) (hb : Binds X.K fd [self] []) (ho : TrE X o fa)
    (fld : ∀ (G : Hp) (vs : List (Str × V)) (fs : List (Str × D)), Flds X.K G vs fs → (∀ k, F [.obj C fs] k (fun _ => False) → vs.lookup m = none)) {pl : Sem Bool}
    (him : eval (.Call (.Attribute o m apos) [] [] pos) X.env = (do
      let ov ← eval o X.env
      standAt apos.atName
      let (ff, first) ← holding [ov] (getMethod ov m pl)
      callWith pos ff first (backTo pos (starEach [] X.env)) (backToKw pos (keywordEach [] X.env))) := by rfl) : TrE X (.Call (.Attribute o m apos) [] [] pos) (fM0 C F fa) :=
  .of (pe_meth0 pe_w c hm Fn hr hb .nil passL him) fun W E ρ G σ H Q k x tk R lx lk hf => by
  refine ho W E ρ G σ H _ _ x tk R lx (fun a ρ1 G1 v H1 e1 R1 q1 h1 => ?_) hf
  cases a <;> first | exact h1.elim | skip
  obtain ⟨rfl, h1⟩ := h1
  rcases q1 with ⟨i, z, _⟩ | ⟨_, hh⟩ | ⟨z, _⟩
  · cases z
  · obtain ⟨b, dx, vs, rfl, g, fl⟩ := hh
    exact ⟨b, dx, vs, rfl, R1.sub _ _ g, fld G1 vs _ fl _ h1, obj_sp R1 g fl (lk.up e1) h1⟩
  · cases z
def fLenO (C : Addr) (F : FD) (fa : FE) : FE := fun ρ k x => fa ρ (fun a ρ1 => match a with | .obj C' fs => C' = C ∧ F [.obj C' fs] (fun r => match r with | .dat (.int n) => (0 ≤ n ∧ n < 2 ^ 63) ∧ k (.dat (.int n)) ρ1 | _ => False) fun _ => False | _ => False) x
end
end Tr
set_option Elab.async false
set_option linter.all false
set_option maxRecDepth 100000
namespace Tr
open PySem PySem.Spec PyProof.Rows L2 Evl Kc Kz Kx
section
variable {X : Cx} {C f : Addr} {fd : FuncData} {self m : Str} {k : Nat} {F : FD} {o e : Expr} {apos pos p : Pos} {fa fb : FE} {fr : FA}
theorem xe_lenO (fn : PySem.W.findIn X.K (.ref C) "__len__" = some (some (.ref f))) (isf : PySem.W.isFn X.K (.ref f) = true) (Fn : FnOk X.prog X.w X.K X.mg X.base (L2.CX X.prog X.w) k f fd [self] (spT X.K 1 F)) (hr : Room (k + 1) X.A) (hb : Binds X.K fd [self] [])
    (hg : Gl X "len") (hm : X.mg "len" = none) (ho : TrE X o fa) (he : starEach [o] X.env = (false, eval o X.env) :: starEach [] X.env := by rfl) : TrE X (.Call (.Name "len" p) [o] [] pos) (fLenO C F fa) :=
  .of (pe_callB (call_lenI Fn hr hb passL) hg hm PySem.boot_len (pa_cons pe_w pa_nil he) (by decide) (by decide) he rfl) fun W E ρ G σ H Q k x tk R lx lk hf => by
  refine ho W E ρ G σ H _ _ x tk R lx (fun a ρ1 G1 v H1 e1 R1 q1 h1 => ?_) hf
  cases a <;> first | exact h1.elim | skip
  obtain ⟨rfl, h1⟩ := h1
  rcases q1 with ⟨i, z, _⟩ | ⟨_, hh⟩ | ⟨z, _⟩
  · cases z
  · obtain ⟨b, dx, vs, rfl, g, fl⟩ := hh
    refine ⟨b, _, dx, vs, rfl, R1.sub _ _ g, fn, isf, obj_sp R1 g fl (kk := fun r ρ' => match r with | .dat (.int n) => (0 ≤ n ∧ n < 2 ^ 63) ∧ k (.dat (.int n)) ρ' | _ => False) (fun r ρ' G' v' H' g1 R' q' hk => ?_) h1⟩
    cases r <;> first | exact hk.elim | skip
    rename_i d
    cases d <;> first | exact hk.elim | skip
    rename_i n
    have hv : v' = .int n := by
      rcases q' with ⟨i, z, _⟩ | ⟨_, hh⟩ | ⟨z, _⟩
      · cases z
      · cases (show Rp X.K G' v' (.int n) from hh); rfl
      · cases z
    exact ⟨n, hv, hk.1.1, hk.1.2, lk _ ρ' G' _ H' (e1.trans g1) R' (.dat (.int n)) hk.2⟩
  · cases z
def gRepr : D → (Out → Prop) → Prop := fun d k => ((d.canLay0 = true ∧ (∃ ds, d = .list ds ∨ d = .tuple ds)) ∧ d.showable = true ∧ d.hasDict = false ∧ d.depth ≤ 40 ∧ d.shown.length ≤ sizeLine) ∧ k (.val (.str d.shown))
def fScrLen (fa : FE) : FE := fun ρ k x => fa ρ (fun a ρ1 => match a with | .scr ns => k (.dat (.int ns.length)) ρ1 | _ => False) x
theorem xe_scrLen (hg : Gl X "len") (hm : X.mg "len" = none) (ho : TrE X o fa) (he : starEach [o] X.env = (false, eval o X.env) :: starEach [] X.env := by rfl) : TrE X (.Call (.Name "len" p) [o] [] pos) (fScrLen fa) :=
  .of (pe_callB call_len_seq hg hm PySem.boot_len (pa_cons pe_w pa_nil he) (by decide) (by decide) he rfl) fun W E ρ G σ H Q k x tk R lx lk hf => by
  refine ho W E ρ G σ H _ _ x tk R lx (fun a ρ1 G1 v H1 e1 R1 q1 h1 => ?_) hf
  cases a <;> first | exact h1.elim | skip
  rename_i ns
  rcases q1 with ⟨i, z, _⟩ | ⟨_, hh⟩ | ⟨z, _⟩
  · cases z
  · obtain ⟨b, rfl, sq⟩ := hh
    refine ⟨b, _, rfl, .inl (ex_l R1.sub sq), ?_⟩
    rw [List.length_map]
    exact lk _ ρ1 G1 _ H1 e1 R1 (.dat (.int _)) h1
  · cases z
end
end Tr
set_option Elab.async false
set_option linter.all false
set_option maxRecDepth 100000
namespace Tr
open PySem PySem.Spec PyProof.Rows L2 Evl Kc Kz Kx
structure SchF (P : Program) (w : World) (K : PySem.W.Frag) (mg : Str → Option Value) (base : Heap) (C : Addr) (lv : Nat) (Fi : FJ) (Fl Ff : FD) : Prop where
  cl : Cls K C
  mgC : mg "Schema" = some (.ref C)
  init : ∃ f fd, Mk K C f ∧ FnOk P w K mg base (L2.CX P w) lv f fd ["self", "fields"] (spI K C "rows" 1 Fi) ∧ Binds K fd ["self", "fields"] []
  len : ∃ f fd, PySem.W.findIn K (.ref C) "__len__" = some (some (.ref f)) ∧ PySem.W.isFn K (.ref f) = true ∧ FnOk P w K mg base (L2.CX P w) 1 f fd ["self"] (spT K 1 Fl) ∧ Binds K fd ["self"] []
  flds : ∃ f fd, Meth K C "fields" f ∧ FnOk P w K mg base (L2.CX P w) 1 f fd ["self"] (spT K 1 Ff) ∧ Binds K fd ["self"] []
section
variable {X : Cx} {P : Program} {w : World} {K : PySem.W.Frag} {mg : Str → Option Value} {base : Heap} {C : Addr} {lv k : Nat} {Fi : FJ} {Fl Ff : FD} {e : Expr} {fr : FA} {fa : FE} {p pos apos : Pos}
theorem xe_makeS (d : SchF P w K mg base C lv Fi Fl Ff) (i : In X P w K mg base) (hr : Room k X.A) (hk : lv + 1 ≤ k) (hg : Gl X "Schema") (ha : TrA X [e] fr) (he : starEach [e] X.env = (false, eval e X.env) :: starEach [] X.env := by rfl) :
    TrE X (.Call (.Name "Schema" p) [e] [] pos) (fMake C "rows" 1 Fi fr) := by
  obtain ⟨rfl, rfl, rfl, rfl, rfl⟩ := i
  obtain ⟨f, fd, m, ok, b⟩ := d.init
  exact xe_make m ok (hr.mono hk) hg d.mgC b ha (by decide) he rfl
theorem xe_lenS (d : SchF P w K mg base C lv Fi Fl Ff) (i : In X P w K mg base) (hr : Room k X.A) (hk : 2 ≤ k) (hg : Gl X "len") (hm : mg "len" = none) (ho : TrE X e fa) (he : starEach [e] X.env = (false, eval e X.env) :: starEach [] X.env := by rfl) :
    TrE X (.Call (.Name "len" p) [e] [] pos) (fLenO C Fl fa) := by
  obtain ⟨rfl, rfl, rfl, rfl, rfl⟩ := i
  obtain ⟨f, fd, h1, h2, ok, b⟩ := d.len
  exact xe_lenO h1 h2 ok (hr.mono hk) b hg hm ho he
theorem xe_fldsS (d : SchF P w K mg base C lv Fi Fl Ff) (one : ∀ fs k, Ff [.obj C fs] k (fun _ => False) → fs.lookup ("fields" : Str) = none) (i : In X P w K mg base) (hr : Room k X.A) (hk : 1 ≤ k) (ho : TrE X e fa) {pl : Sem Bool}
    (ht : eval (.Call (.Attribute e "fields" apos) [] [] pos) X.env = (do
      let ov ← eval e X.env
      standAt apos.atName
      let (f, first) ← holding [ov] (getMethod ov "fields" pl)
      callWith pos f first (backTo pos (starEach [] X.env)) (backToKw pos (keywordEach [] X.env))) := by rfl) : TrE X (.Call (.Attribute e "fields" apos) [] [] pos) (fM0 C Ff fa) := by
  obtain ⟨rfl, rfl, rfl, rfl, rfl⟩ := i
  obtain ⟨f, fd, m, ok, b⟩ := d.flds
  refine xe_meth0 d.cl m ok (hr.mono hk) b ho (fun G vs fs fl k h => ?_) ht
  have h1 := one fs k h
  have gen : ∀ {vs : List (Str × V)} {fs : List (Str × D)}, Flds X.K G vs fs → fs.lookup ("fields" : Str) = none → vs.lookup ("fields" : Str) = none := by
    intro vs fs fl
    induction fl with
    | nil => intro _; rfl
    | @cons a b l1 l2 h t ih =>
      obtain ⟨n, v⟩ := a
      obtain ⟨n', d⟩ := b
      have e : n = n' := h.1
      subst e
      intro hh
      rw [List.lookup_cons] at hh ⊢
      cases q : ("fields" : Str) == n with
      | true => rw [q] at hh; cases hh
      | false => rw [q] at hh; exact ih hh
  exact gen fl h1
end
end Tr
set_option Elab.async false
set_option linter.all false
set_option maxRecDepth 100000
namespace Tr
open PySem PySem.Spec PyProof.Rows L2 Evl Kc Kz Kx ClX
/-- a, b = e1, e2: the second value may be owned -/
def sParK (i j : Nat) (fa fb : FE) : FS := fun ρ N x => fa ρ (fun a ρ1 => fz a fun a' => fb ρ1 (fun b ρ2 => putK i a' ρ2 fun ρ3 => putK j b ρ3 N.nx) x) x
theorem loose_put {ρ : S} {σ : L2.St} {p : Addr} {i : Nat} {a : AV} {v : V} (ls : Loose ρ σ p) (no : a.isOwn = false) : Loose (ρ.set i (some a)) (σ.set i (some v)) p := fun j b hj ob => by
  rcases getset hj with ⟨e1, e2⟩ | ⟨n, h⟩
  · rw [e2, no] at ob
    cases ob
  · rw [List.getElem?_set_ne fun z => n z.symm]
    exact ls j b h ob
theorem Res.put {K : PySem.W.Frag} {E : Ent} {ρ : S} {G H : Hp} {σ : L2.St} {a b : AV} {v u : V} {i : Nat} (q : Res K E ρ G σ H b u) (no : a.isOwn = false) (nb : ∀ m, b ≠ .at m) : Res K E (ρ.set i (some a)) G (σ.set i (some v)) H b u := by
  rcases q with ⟨m, z, _⟩ | ⟨n, hh⟩ | ⟨yo, np, p, rfl, gp, st, h0, ls⟩
  · exact absurd z (nb m)
  · exact .inr (.inl ⟨n, hh⟩)
  · exact .inr (.inr ⟨yo, np, p, rfl, gp, st, h0, loose_put ls no⟩)
section
variable {X : Cx} {fa fb : FE} {fr : FA} {a b c : Expr} {px py pz pt pos : Pos} {kt k2 pt2} {i j l : Nat} {x y z : Str}
theorem ref_parK {ta tb : TE} (ha : RefE X ta fa) (hb : RefE X tb fb) : RefS X (tPar i j (tCons ta (tCons tb tNil))) (sParK i j fa fb) := fun W E ρ G σ H M N x tk R lx lk hf => by
  refine ha W E ρ G σ H _ _ x tk R lx (fun a ρ1 G1 v H1 e1 R1 q1 h1 => ?_) hf
  obtain ⟨a', G1', no, e1', R1', q1', h1⟩ := q1.fz R1 h1
  refine hb W E ρ1 G1' σ H1 _ _ x tk R1' lx (fun b ρ2 G2 u H2 e2 R2 q2 h2 => ?_) h1
  obtain ⟨h2, n1, m1⟩ := putK_of h2
  obtain ⟨h3, n2, m2⟩ := putK_of h2
  have R3 := R2.putRes (i := i) (q1'.stay no e2) n1 m1
  exact ⟨v, u, rfl, lk.nx _ G2 _ H2 ((e1.trans e1').trans e2) (R3.putRes (i := j) (q2.put no m2) n2 m2) h3⟩
theorem ts_parK (ha : TrE X a fa) (hb : TrE X b fb) (hc : X.calm = true) (hN : X.N.Nodup) (hi : X.N[i]? = some x) (hj : X.N[j]? = some y) (hij : i ≠ j)
    (hx : X.env.scope.names.lookup x = some .local) (hy : X.env.scope.names.lookup y = some .local)
    (w1 : swappedStores [.Tuple [.Name x px, .Name y py] kt pt] (.Tuple [a, b] k2 pt2) X.env = pure (some [x, y]))
    (w2 : swapsWithSole [.Tuple [.Name x px, .Name y py] kt pt] (.Tuple [a, b] k2 pt2) pos.line X.env = pure false := by rfl) (s1 : starEach [a, b] X.env = (false, eval a X.env) :: starEach [b] X.env := by rfl) (s2 : starEach [b] X.env = (false, eval b X.env) :: starEach [] X.env := by rfl) :
    TrS X (.Assign [.Tuple [.Name x px, .Name y py] kt pt] (.Tuple [a, b] k2 pt2) pos) (sParK i j fa fb) := .of (ps_par hc hN hi hj hij hx hy (pa_cons pe_w (pa_cons pe_w pa_nil s2) s1) w1 w2) (ref_parK ha hb)
end
section
variable {X : Cx} {C : Addr} {mc u : Value} {f nm : Str} {n : Int} {p pos : Pos}
theorem xe_cint (hg : Gl X nm) (hm : X.mg nm = some (.ref C)) (r : CRead X.K C mc) (c : CVal X.K C mc f (.int n) u) (hb : attributeBase (.Name nm p) f X.env (eval (.Name nm p) X.env) = eval (.Name nm p) X.env := by rfl) (hd : (nm == ("__debug__" : Str)) = false := by decide) : TrE X (.Attribute (.Name nm p) f pos) (fC (.dat (.int n))) :=
  .of (pe_cval (pe_glob (v := .ref C) hg hm rfl hd) hb) fun W E ρ G σ H Q k x tk R lx lk hf => ⟨C, mc, _, _, rfl, r, c, lk _ ρ G _ H (Ex.refl G) R (.dat (.int _)) hf⟩
end
end Tr
set_option Elab.async false
set_option linter.all false
set_option maxRecDepth 100000
namespace Tr
open PySem PySem.Spec PyProof.Rows L2 Evl Kc Kz Kx
def gEqT (neg : Bool) : Op2 := fun d e k =>
  match d, e with
  | .str a, .str b => k (.val (.bool (neg ^^ decide (a = b))))
  | _, _ => False
theorem dec_txt (a b : Str) : decide (V.str a = V.str b) = decide (a = b) := by
  by_cases h : a = b
  · subst h; simp
  · rw [decide_eq_false h, decide_eq_false fun e => h (V.str.inj e)]
section
variable {X : Cx} {a b : Expr} {fa fb : FE} {pos : Pos} {K : PySem.W.Frag}
theorem y_neT : Y2 K rNe (gEqT true) := fun G H x y d e s hx hy Q k o h => by
  cases d <;> first | exact h.elim | skip
  cases e <;> first | exact h.elim | skip
  rw [hx.strs, hy.strs]
  refine ⟨rfl, ?_⟩
  rw [dec_txt]
  have h : k (.val (.bool (true ^^ _))) := h
  rw [Bool.true_xor] at h
  exact o.val _ _ (.bl _) h
theorem xt_neT (ha : TrE X a fa) (hb : TrE X b fb) : TrT X (.Compare a [.NotEq] [b] pos) (fTest (f2 (gEqT true) fa fb)) := xt_cmp op_ne y_neT (nomark _) ha hb
end
end Tr
set_option Elab.async false
set_option linter.all false
set_option maxRecDepth 100000
namespace Tr
open PySem PySem.Spec PyProof.Rows L2 Evl Kc Kz Kx
def fCallP (F : FD) (fe : FE) : FE := fun ρ k x => fe ρ (fun a ρ1 => a = .pot false ∧ F [.pot true] (fun r => k r ρ1) fun c => x c ρ1) x
end Tr
set_option Elab.async false
set_option linter.all false
set_option maxRecDepth 100000
namespace Tr
open PySem PySem.Spec PyProof.Rows L2 Evl Kc
def keyD : D → Option Key
  | .int i => some (.inl i)
  | .str x => some (.inr x)
  | _ => none
theorem keyD_kD (k : Key) : keyD (kD k) = some k := by cases k <;> rfl
def lookD (k : Key) : List (D × D) → Option D
  | [] => none
  | (d, c) :: es => if keyD d = some k then some c else lookD k es
theorem Rpk.look {K : PySem.W.Frag} {G : Hp} {k : Key} {c : D} : ∀ {kvs : List (Key × V)} {es : List (D × D)}, Rpk K G kvs es → lookD k es = some c → ∃ v, valV kvs k = some v ∧ Rp K G v c
  | _, _, .nil, h => by cases h
  | _, _, .cons (k := j) (v := v) r t, h => by
    unfold lookD at h
    rw [keyD_kD] at h
    by_cases e : j = k
    · rw [if_pos (by rw [e])] at h
      cases h
      exact ⟨v, valV_pos e, r⟩
    · rw [if_neg (fun z => e (Option.some.inj z))] at h
      obtain ⟨w, h1, h2⟩ := Rpk.look t h
      exact ⟨w, by rw [valV_neg e]; exact h1, h2⟩
end Tr
set_option Elab.async false
set_option linter.all false
set_option maxRecDepth 100000
namespace Tr
open PySem PySem.Spec PyProof.Rows L2 Evl Kc Kz Kx
section
variable {X : Cx} {pos : Pos}
def fD0 : FE := fun ρ k _ => k (.own false (.dict [])) ρ
theorem xe_d0 : TrE X (.Dict [] [] pos) fD0 := .of pe_dnewK fun W E ρ G σ H Q k x tk R lx lk h => by
  intro p n
  exact (outLk R lk).newd p _ _ n .nil h
end
end Tr
set_option Elab.async false
set_option linter.all false
set_option maxRecDepth 100000
namespace Tr
open PySem PySem.Spec PyProof.Rows L2 Evl Kc
def nst : Expr → Bool
  | .Starred .. => false
  | _ => true
theorem star_of {e : Expr} {es : List Expr} {env : Env} (h : nst e = true) : starEach (e :: es) env = (false, eval e env) :: starEach es env := by
  cases e <;> first | rfl | cases h
theorem xa_cn {X : Cx} {e : Expr} {es : List Expr} {fa : FE} {fr : FA} (ha : TrE X e fa) (hr : TrA X es fr) (n : nst e = true := by rfl) : TrA X (e :: es) (fCons fa fr) := xa_cons ha hr (star_of n)
theorem plain_of {pos : Pos} {env : Env} : ∀ {es : List Expr}, es.all nst = true → (backTo pos (starEach es env)).any (·.1) = false
  | [], _ => rfl
  | e :: es, h => by
    have hh := (Bool.and_eq_true _ _).mp ((List.all_cons ..).symm.trans h)
    rw [star_of hh.1]
    show (false || (backTo pos (starEach es env)).any (·.1)) = false
    rw [Bool.false_or]
    exact plain_of hh.2
/-- arguments, not to be looked into -/
structure TaW (X : Cx) (es : List Expr) (f : FA) : Prop where
  run : TrA X es f
section
variable {X : Cx} {e : Expr} {es : List Expr} {fa : FE} {fr : FA} {pos : Pos}
theorem xw_nil : TaW X [] fNil := ⟨xa_nil⟩
theorem xw_cons (ha : TrE X e fa) (hr : TaW X es fr) (n : nst e = true := by rfl) : TaW X (e :: es) (fCons fa fr) := ⟨xa_cn ha hr.run n⟩
theorem xe_lstW (h : TaW X es fr) : TrE X (.List es pos) (fDisp .newl fr) := xe_lst h.run
end
/-- a statement, not to be looked into -/
structure TsW (X : Cx) (st : Stmt) (f : FS) : Prop where
  run : TrS X st f
/-- a block, not to be looked into -/
structure TbW (X : Cx) (st : List Stmt) (f : FS) : Prop where
  run : TrB X st f
section
variable {X : Cx} {st : Stmt} {rest : List Stmt} {fs fr : FS}
theorem tw_one (h : TrS X st fs) : TbW X [st] fs := ⟨tb_one h⟩
theorem tw_oneV (h : TsW X st fs) : TbW X [st] fs := ⟨tb_one h.run⟩
theorem tw_cons (h : TrS X st fs) (hr : TbW X rest fr) : TbW X (st :: rest) (sCons fs fr) := ⟨tb_cons h hr.run⟩
theorem tw_consV (h : TsW X st fs) (hr : TbW X rest fr) : TbW X (st :: rest) (sCons fs fr) := ⟨tb_cons h.run hr.run⟩
end
/-- a display, not to be looked into -/
structure TeW (X : Cx) (e : Expr) (f : FE) : Prop where
  run : TrE X e f
section
variable {X : Cx} {a e : Expr} {es : List Expr} {fa fe : FE} {fr : FA} {pos : Pos}
theorem xe_lstV (h : TaW X es fr) : TeW X (.List es pos) (fDisp .newl fr) := ⟨xe_lst h.run⟩
theorem xe_tupV {x1} (h : TaW X es fr) : TeW X (.Tuple es x1 pos) (fDisp .newt fr) := ⟨xe_tup h.run⟩
theorem xv_cons (ha : TeW X e fa) (hr : TaW X es fr) (n : nst e = true := by rfl) : TaW X (e :: es) (fCons fa fr) := xw_cons ha.run hr n
theorem xe_addV (ha : TrE X a fa) (hb : TeW X e fe) : TrE X (.BinOp a .Add e pos) (f2 gAdd fa fe) := xe_add ha hb.run
theorem ts_setV (i : Nat) {n : Str} {pos' : Pos} (h : TeW X e fe) (hN : X.N.Nodup) (hi : X.N[i]? = some n) (hx : Loc X.env.scope n) (hs : swapsWith e (some (.Name n pos')) pos.line X.env = pure false := by rfl) (hf : X.fn n = true ∨ X.env.scope.names.lookup n = some .local := by first | exact .inl rfl | exact .inr rfl | assumption) :
    TsW X (.Assign [.Name n pos'] e pos) (sSet i fe) := ⟨ts_set i h.run hN hi hx hs hf⟩
end
end Tr
set_option Elab.async false
set_option linter.all false
set_option maxRecDepth 100000
namespace Tr
open PySem PySem.Spec PyProof.Rows L2 Evl Kc
end Tr
set_option Elab.async false
set_option linter.all false
set_option maxRecDepth 100000
namespace Tr
open PySem PySem.Spec PyProof.Rows L2 Evl Kc Kz
/-- for each dict its keys; all values are True -/
abbrev NK := List (List Str)
abbrev trK (z : Str) : Key × V := (.inr z, .bl true)
abbrev dkOf (ks : List Str) : HO := .dK (ks.map trK)
def Ent.withF (E : Ent) (F' : Hp) : Ent := { E with F := F' }
structure Nst (E : Ent) (F' : Hp) (p : Addr) (qs : List Addr) (es : NK) : Prop where
  up : ∀ b o, E.F b = some o → F' b = some o
  top : F' p = some (.lst (qs.map V.ref))
  len : qs.length = es.length
  nd : qs.Nodup
  ds : ∀ (j : Nat) (q : Addr) (ks : List Str), qs[j]? = some q → es[j]? = some ks → F' q = some (dkOf ks)
  h0 : ∀ q ∈ qs, E.H0 q = none
  f0 : ∀ q ∈ qs, E.F q = none
  fp : E.F p = none
  hp : E.H0 p = none
def RelN (K : PySem.W.Frag) (E : Ent) (i : Nat) (es : NK) (ρ : S) (G : Hp) (σ : L2.St) (H : Hp) : Prop :=
  ∃ p qs F', Nst E F' p qs es ∧ ρ[i]? = some (some (.raw (.ref p))) ∧ Rel K (E.withF F') ρ G σ H
structure EndsN where
  nx : NK → S → Prop
  rt : AV → S → Prop
abbrev FN := NK → S → EndsN → KX → Prop
structure LkN (K : PySem.W.Frag) (E : Ent) (i : Nat) (G : Hp) (N : EndsN) (M : Ends) : Prop where
  nx : ∀ es ρ' G' σ' H', Ex G G' → RelN K E i es ρ' G' σ' H' → N.nx es ρ' → M.nx σ' H'
  rt : ∀ a ρ' G' σ' v H', Ex G G' → Rel K E ρ' G' σ' H' → Res K E ρ' G' σ' H' a v → N.rt a ρ' → M.rt v H'
theorem LkN.up {K : PySem.W.Frag} {E : Ent} {i : Nat} {G G1 : Hp} {N : EndsN} {M : Ends} (l : LkN K E i G N M) (e : Ex G G1) : LkN K E i G1 N M :=
  ⟨fun es ρ' G' σ' H' e1 => l.nx es ρ' G' σ' H' (e.trans e1), fun a ρ' G' σ' v H' e1 => l.rt a ρ' G' σ' v H' (e.trans e1)⟩
def RefN (X : Cx) (i : Nat) (t : TS) (f : FN) : Prop := ∀ (W : WX) (E : Ent) (es : NK) (ρ : S) (G : Hp) (σ : L2.St) (H : Hp) (M : Ends) (N : EndsN) (x : KX), TakesT X W E → RelN X.K E i es ρ G σ H → LkX X.K E x W → LkN X.K E i G N M → f es ρ N x → t M σ H
def TnS (X : Cx) (i : Nat) (st : Stmt) (f : FN) : Prop := RefN X i (wS X st) f
def TnB (X : Cx) (i : Nat) (st : List Stmt) (f : FN) : Prop := RefN X i (wB X st) f
theorem TnS.of {X : Cx} {i : Nat} {e : Stmt} {t : TS} {f : FN} (h : PS X e t) (r : RefN X i t f) : TnS X i e f := fun W E es ρ G σ H M N x tk R lx lk hf pins s I => h.run pins s σ H M I (r W E es ρ G σ H M N x tk R lx lk hf)
theorem TnB.of {X : Cx} {i : Nat} {e : List Stmt} {t : TS} {f : FN} (h : PSs X e t) (r : RefN X i t f) : TnB X i e f := fun W E es ρ G σ H M N x tk R lx lk hf pins s I => h.run pins s σ H M I (r W E es ρ G σ H M N x tk R lx lk hf)
theorem set_get {α : Type} {l : List α} {n j : Nat} {a b : α} (h : (l.set n a)[j]? = some b) : (j = n ∧ b = a) ∨ (j ≠ n ∧ l[j]? = some b) := by
  rw [List.getElem?_set] at h
  by_cases e : n = j
  · rw [if_pos e] at h
    split at h
    · cases h
      exact .inl ⟨e.symm, rfl⟩
    · cases h
  · rw [if_neg e] at h
    exact .inr ⟨fun z => e z.symm, h⟩
theorem nd_at {qs : List Addr} (nd : qs.Nodup) {i j : Nat} {q : Addr} (h1 : qs[i]? = some q) (h2 : qs[j]? = some q) : i = j := by
  obtain ⟨l1, e1⟩ := List.getElem?_eq_some_iff.mp h1
  obtain ⟨l2, e2⟩ := List.getElem?_eq_some_iff.mp h2
  exact (List.getElem_inj nd).mp (e1.trans e2.symm)
theorem Nst.put {E : Ent} {F' : Hp} {p q : Addr} {qs : List Addr} {es : NK} {n : Nat} {ks : List Str} (s : Nst E F' p qs es) (hq : qs[n]? = some q) (he : es[n]? = some ks) (ks' : List Str) : Nst E (upd F' q (dkOf ks')) p qs (es.set n ks') := by
  have mq := List.mem_of_getElem? hq
  have dq := s.ds n q ks hq he
  refine ⟨fun b o h => ?_, ?_, by rw [List.length_set]; exact s.len, s.nd, fun j r ks2 h1 h2 => ?_, s.h0, s.f0, s.fp, s.hp⟩
  · rw [upd_ne fun e => by rw [e, s.f0 q mq] at h; cases h]
    exact s.up b o h
  · rw [upd_ne fun e => by have := s.top; rw [e, dq] at this; cases this]
    exact s.top
  · rcases set_get h2 with ⟨rfl, rfl⟩ | ⟨nj, h2⟩
    · rw [hq] at h1
      cases h1
      exact upd_same
    · rw [upd_ne fun e => nj (nd_at s.nd h1 (by rw [e]; exact hq))]
      exact s.ds j r ks2 h1 h2
end Tr
set_option Elab.async false
set_option linter.all false
set_option maxRecDepth 100000
namespace Tr
open PySem PySem.Spec PyProof.Rows L2 Evl Kc Kz
section
variable {K : PySem.W.Frag} {E : Ent} {i : Nat} {es : NK} {ρ : S} {G H F' : Hp} {σ : L2.St} {p : Addr} {qs : List Addr}
theorem Nst.get {n : Nat} {ks : List Str} (s : Nst E F' p qs es) (h : es[n]? = some ks) : ∃ q, qs[n]? = some q ∧ F' q = some (dkOf ks) := by
  have l := (List.getElem?_eq_some_iff.mp h).1
  have l2 : n < qs.length := by rw [s.len]; exact l
  have e : qs[n]? = some qs[n] := List.getElem?_eq_getElem l2
  exact ⟨_, e, s.ds n _ ks e h⟩
end
end Tr
set_option Elab.async false
set_option linter.all false
set_option maxRecDepth 100000
namespace Kz
open PySem PySem.Spec PyProof.Rows L2
end Kz
set_option Elab.async false
set_option linter.all false
set_option maxRecDepth 100000
namespace Tr
open PySem PySem.Spec PyProof.Rows L2 Evl Kc Kz Kx
section
variable {X : Cx} {fa : FE} {fr : FA} {tg e o : Expr} {p pos apos cpos p1 p2 p3 tpos : Pos} {elts : List Expr} {kk i k : Nat}
theorem PI.or {w1 w2 : TI} (h1 : PI X tg e w1) (h2 : PI X tg e w2) : PI X tg e (fun σ H R => w1 σ H R ∨ w2 σ H R) := ⟨fun pins s σ H R I h => h.elim (h1.run pins s σ H R I) (h2.run pins s σ H R I)⟩
def iOr (f1 f2 : FI) : FI := fun ρ k x => f1 ρ k x ∨ f2 ρ k x
theorem TrI.or {f1 f2 : FI} (h1 : TrI X tg e f1) (h2 : TrI X tg e f2) : TrI X tg e (iOr f1 f2) := by
  obtain ⟨w1, a1, r1⟩ := h1
  obtain ⟨w2, a2, r2⟩ := h2
  exact ⟨_, PI.or a1 a2, fun W E ρ G σ H R k x tk Rl lx lk hf => hf.elim (fun h => .inl (r1 W E ρ G σ H R k x tk Rl lx lk h)) fun h => .inr (r2 W E ρ G σ H R k x tk Rl lx lk h)⟩
/-- xs[::-1] of a list -/
def fRev (fa : FE) : FE := fun ρ k x => fa ρ (fun a ρ1 => vw ρ1 a fun d => match d with | .list ds => k (.own false (.list ds.reverse)) ρ1 | _ => False) x
theorem xe_rev (h : TrE X e fa) : TrE X (.Subscript e (.Slice none none (some (.UnaryOp .USub (.Constant (.int 1) kk p1) p2)) p3) pos) (fRev fa) := .of (pe_revL pe_w) fun W E ρ G σ H Q k x tk R lx lk hf => by
  refine h W E ρ G σ H _ _ x tk R lx (fun a ρ1 G1 v H1 e1 R1 q1 h1 => ?_) hf
  obtain ⟨d, vd, h1⟩ := q1.vw R1 h1
  cases d <;> first | exact h1.elim | skip
  obtain ⟨q, xs, rfl, e2, r2⟩ := vd.lsts R1.sub
  exact ⟨q, xs, rfl, .inl (.inl e2), fun l n => (outLk R1 fun a ρ' G' v' H' g1 => lk a ρ' G' v' H' (e1.trans g1)).newl l _ _ n r2.rev h1⟩
end
end Tr
set_option Elab.async false
set_option linter.all false
set_option maxRecDepth 100000
namespace Tr
open PySem PySem.Spec PyProof.Rows L2 Evl Kc Kz Kx
/-- a value without parts -/
inductive FlatV : V → Prop
  | non : FlatV .non
  | bl (b : Bool) : FlatV (.bl b)
  | int (i : Int) : FlatV (.int i)
  | str (z : Str) : FlatV (.str z)
/-- kept of such a value: the value -/
def spKf : Sp := fun vs H Q _ => ∃ (v : V) (n : Int), vs = [v, .int n] ∧ FlatV v ∧ Q v H
theorem kf_mono (vs : List V) (H : Hp) (Q Q' : VK) (E : XK) (h : ∀ v H', Q v H' → Q' v H') (q : spKf vs H Q E) : spKf vs H Q' E := by
  obtain ⟨v, n, e, fl, q⟩ := q
  exact ⟨v, n, e, fl, h _ _ q⟩
theorem flatV_of {K : PySem.W.Frag} {G : Hp} {v : V} {d : D} (h : Rp K G v d) (f : flatD d = true) : FlatV v := by
  cases h <;> first
    | exact .non
    | exact .bl _
    | exact .int _
    | exact .str _
    | cases f
/-- what is left of the heap when such an error was made and is let go -/
theorem made_one {H : Hp} {a dx D : Addr} {fl : Str} {v : V} (na : H a = none) (nd : dx ≠ a) : upd (del (upd (upd (upd H a (exo a D none)) dx (exd dx [(fl, v)])) a (exo a D (some dx))) a) dx (.xd [(fl, v)]) = upd H dx (.xd [(fl, v)]) := by
  funext b
  by_cases h1 : b = dx
  · rw [h1, upd_same, upd_same]
  · rw [upd_ne h1, upd_ne h1]
    by_cases h2 : b = a
    · rw [h2, del_same, na]
    · rw [del_ne h2, upd_ne h2, upd_ne h1, upd_ne h2]
/-- the class c of the program: an error of one field -/
structure Er1 (P : Program) (w : World) (K : PySem.W.Frag) (mg : Str → Option Value) (base : Heap) (c : Str) (D : Addr) (fl x : Str) (lv : Nat) : Prop where
  T : ∃ (B newId initId : String) (tail : List Value), OexB K D B newId initId tail
  mgE : mg c = some (.ref D)
  ini : ∃ fI fd, PySem.W.findIn K (.ref D) "__init__" = some (some (.ref fI)) ∧ PySem.W.typeIn K (.ref fI) = some (.type "function") ∧ FnOk P w K mg base CX0 lv fI fd ["self", x] (spErr1 D fl spKf) ∧ Binds K fd ["self", x] []
def sRaise1 (D : Addr) (fl : Str) (fr : FA) : FS := fun ρ _ x => fr ρ (fun as ρ1 => dats as fun ds => match ds with | [d] => flatD d = true ∧ x ⟨D, [(fl, d)]⟩ ρ1 | _ => False) x
theorem ts_raise1 {X : Cx} {P : Program} {w : World} {K : PySem.W.Frag} {mg : Str → Option Value} {base : Heap} {c x fl : Str} {D : Addr} {lv k : Nat} {e : Expr} {fr : FA} {p pos rpos : Pos} (d : Er1 P w K mg base c D fl x lv) (i : In X P w K mg base) (hc : X.calm = true) (hr : Room k X.A) (hk : lv + 1 ≤ k) (hg : Gl X c) (ha : TrA X [e] fr)
    (hdb : (c == ("__debug__" : Str)) = false := by decide) (he : starEach [e] X.env = [(false, eval e X.env)] := by rfl) : TrS X (.Raise (some (.Call (.Name c p) [e] [] pos)) none rpos) (sRaise1 D fl fr) := by
  obtain ⟨rfl, rfl, rfl, rfl, rfl⟩ := i
  obtain ⟨fI, fd, iC, tI, ok, bd⟩ := d.ini
  obtain ⟨_, _, _, _, T⟩ := d.T
  intro W E ρ G σ H M N y tk R lx lk hf pins s I
  refine (ps_raise hc tk.1 (pmk_oexb T iC tI ok (hr.mono hk) bd .nil pass0 hg d.mgE pa_w hdb he rfl)).run pins s σ H M I ?_
  refine ha W E ρ G σ H _ _ y tk R lx (fun as ρ1 G1 vs H1 e1 R1 q1 h1 => ?_) hf
  obtain ⟨ds, rp, h1⟩ := dats_rps q1 h1
  cases rp with
  | nil => exact h1.elim
  | @cons v dd _ _ rv t =>
    cases t with
    | cons _ _ => exact h1.elim
    | nil =>
      obtain ⟨fd', hx⟩ := h1
      refine ⟨by show 1 ≤ 1000; decide, fun a na => ⟨a, v, rfl, upd_same, v, 5, rfl, flatV_of rv fd', upd_same, fun dx n1 n2 => ⟨rfl, dx, [(fl, v)], upd_same, ?_, ?_, ?_⟩⟩⟩
      · rw [upd_ne n2, upd_same]
      · rw [upd_ne n2] at n1
        exact n1
      · rw [upd_ne n2] at n1
        rw [made_one na n2]
        obtain ⟨R2, e2⟩ := R1.made (o := .xd [(fl, v)]) n1
        exact lx ⟨D, [(fl, dd)]⟩ ρ1 _ σ dx _ R2 ⟨[(fl, v)], upd_same, .cons ⟨rfl, rv.mono e2⟩ .nil⟩ hx
end Tr
set_option Elab.async false
set_option linter.all false
set_option maxRecDepth 100000
namespace Tr
open PySem PySem.Spec PyProof.Rows L2 Evl Kc Kz Kx
def Ent.atG (E : Ent) (G : Hp) : Ent := { E with G0 := G }
section
variable {K : PySem.W.Frag} {E : Ent} {ρ ρ' : S} {G G' H H' : Hp} {σ σ' : L2.St} {a : AV} {v : V}
theorem Rel.atG (r : Rel K E ρ G σ H) : Rel K (E.atG G) ρ G σ H := ⟨r.sub, r.len, r.slot, r.apart, r.mine, r.par, Ex.refl G, fun b o h => .inl h, r.but, r.live, r.h0p, r.frm, r.fno, r.gno⟩
theorem Rel.ofG (r0 : Rel K E ρ G σ H) (r : Rel K (E.atG G) ρ' G' σ' H') : Rel K E ρ' G' σ' H' ∧ Ex G G' :=
  ⟨⟨r.sub, r.len, r.slot, r.apart, r.mine, r.par, r0.grow.trans r.grow, fun b o h => (r.new b o h).elim (fun z => r0.new b o z) .inr, r.but, r.live, r.h0p, r.frm, r.fno, r.gno⟩, r.grow⟩
end
/-- try: .. except C as e: ..; the body raises errors of the class at C alone, the suite none -/
def sTryAs (i : Nat) (C : Addr) (fb : FS) (fsu : Addr → Addr → FS) : FS := fun ρ N _ => fb ρ N fun c ρ1 => c.cls = C ∧ ∀ a dd, fsu a dd (ρ1.set i (some (.exn a C dd c.fs))) { nx := fun ρ' => N.nx (ρ'.set i none), rt := N.rt, bk := fun ρ' => N.bk (ρ'.set i none), ct := fun ρ' => N.ct (ρ'.set i none) } noX
theorem ts_tryAs {X : Cx} {x n : Str} {C : Addr} {body suite : List Stmt} {b₀ : Stmt} {np pos pos' : Pos} {fb : FS} {fsu : Addr → Addr → FS} (i : Nat) (hs : X.stack = X.env :: X.outer) (hf : X.env.frame = some X.env.locals) (hN : X.N.Nodup) (hi : X.N[i]? = some n) (hln : X.env.kindOf n = some .local) (gE : Gl X x) (mE : X.mg x = some (.ref C)) (te : PySem.W.exmOne X.K (.ref C) (.ref C) = some true)
    (hb : ∀ (pn : List (Addr × Obj)) (xe : Value → Shared → Prop), TrB (X.tr pn xe) body fb)
    (hsu : ∀ (a dd : Addr) (oe : Obj) (pn : List (Addr × Obj)), Zc (.ref C) (some dd) oe → (∃ vs, oe.data = .fields vs) → TrB (X.suite a ((a, oe) :: pn)) (b₀ :: suite) (fsu a dd)) (hdb : (x == ("__debug__" : Str)) = false := by decide) :
    TrS X (.Try body [.ExceptHandler (some (.Name x np)) (some n) (b₀ :: suite) pos'] [] [] pos) (sTryAs i C fb fsu) := by
  intro W E ρ G σ H M N y tk R lx lk hfm pins s I
  refine (ps_try_as (c := .ref C) (i := i) (tb := fun W D σ H => ∀ (pn : List (Addr × Obj)) (xe : Value → Shared → Prop), Takes (X.tr pn xe) W → wB (X.tr pn xe) body D σ H) (ts := fun a cls d D σ H => ∀ (oe : Obj) (pn : List (Addr × Obj)), Zc cls d oe → (∃ vs, oe.data = .fields vs) → wB (X.suite a ((a, oe) :: pn)) (b₀ :: suite) D σ H)
    hs hf hN hi hln ⟨gE, hdb, .inl mE⟩ tk.1 (fun W pn xe tk' _ => ⟨fun pins s σ H D I h => h pn xe tk' pins s I⟩) (fun a oe cls d pn hz hfd => ⟨fun pins s σ H D I h => h oe pn hz hfd pins s I⟩)).run pins s σ H M I ?_
  intro pn xe tk'
  refine hb pn xe _ (E.atG G) ρ G σ H M N _ ⟨tk', tk.2⟩ R.atG (fun c ρ1 G1 σ1 dd H1 R1 xr hx => ?_) ⟨fun ρ' G' σ' H' e R' h => lk.nx ρ' G' σ' H' e (R.ofG R').1 h, fun a ρ' G' σ' v H' e R' q h => lk.rt a ρ' G' σ' v H' e (R.ofG R').1 q h, fun ρ' G' σ' H' e R' h => lk.bk ρ' G' σ' H' e (R.ofG R').1 h, fun ρ' G' σ' H' e R' h => lk.ct ρ' G' σ' H' e (R.ofG R').1 h⟩ hfm
  obtain ⟨ec, hx⟩ := hx
  obtain ⟨R1, e1⟩ := R.ofG R1
  rw [ec]
  refine ⟨true, te, fun _ a na oe pn2 hz hfd => ?_, fun z => nomatch z⟩
  have R2 : Rel X.K E (ρ1.set i (some (.exn a C dd c.fs))) G1 (σ1.set i (some (.ref a))) H1 := R1.put (a := .exn a C dd c.fs) ⟨rfl, xr⟩ rfl fun z => by cases z
  exact hsu a dd oe pn2 hz hfd _ E _ G1 _ H1 { nx := fun σ' H' => M.nx (σ'.set i none) H', rt := M.rt, bk := fun σ' H' => M.bk (σ'.set i none) H', ct := fun σ' H' => M.ct (σ'.set i none) H' } { nx := fun ρ' => N.nx (ρ'.set i none), rt := N.rt, bk := fun ρ' => N.bk (ρ'.set i none), ct := fun ρ' => N.ct (ρ'.set i none) } noX ⟨takes0, tk.2⟩ R2 lkx0 ⟨fun ρ' G' σ' H' e R' h => lk.nx _ G' _ H' (e1.trans e) R'.forget h, fun b ρ' G' σ' v H' e R' q h => lk.rt b ρ' G' σ' v H' (e1.trans e) R' q h, fun ρ' G' σ' H' e R' h => lk.bk _ G' _ H' (e1.trans e) R'.forget h, fun ρ' G' σ' H' e R' h => lk.ct _ G' _ H' (e1.trans e) R'.forget h⟩ (hx a dd)
section
variable {X : Cx} {i : Nat} {a C dd : Addr} {oe : Obj} {pn : List (Addr × Obj)} {e n : Str} {ce : Expr} {ces : List Expr} {cv : V} {cvs : List V} {u : Value} {us : List Value} {b : Bool} {p p0 p1 p2 pos : Pos} {kk : Nat}
def isExn (ρ : S) (i : Nat) (a C dd : Addr) (k : List (Str × D) → Prop) : Prop :=
  match ρ[i]? with
  | some (some (.exn a' C' dd' fs)) => (a' = a ∧ C' = C ∧ dd' = dd) ∧ k fs
  | _ => False
theorem isExn_of {ρ : S} {k : List (Str × D) → Prop} (h : isExn ρ i a C dd k) : ∃ fs, ρ[i]? = some (some (.exn a C dd fs)) ∧ k fs := by
  unfold isExn at h
  split at h
  · rename_i a' C' dd' fs q
    obtain ⟨⟨rfl, rfl, rfl⟩, h⟩ := h
    exact ⟨fs, q, h⟩
  · exact h.elim
theorem Rel.exnAt {K : PySem.W.Frag} {E : Ent} {ρ : S} {G H : Hp} {σ : L2.St} {fs : List (Str × D)} (r : Rel K E ρ G σ H) (h : ρ[i]? = some (some (.exn a C dd fs))) : σ[i]? = some (some (.ref a)) ∧ ∃ vs, G dd = some (.xd vs) ∧ Flds K G vs fs := by
  obtain ⟨v, q, hh⟩ := r.slot i _ h
  obtain ⟨rfl, vs, h1, h2⟩ := hh
  exact ⟨q, vs, h1, h2⟩
def fIsX (i : Nat) (a C dd : Addr) (b : Bool) : FE := fun ρ k _ => isExn ρ i a C dd fun _ => k (.dat (.bool b)) ρ
theorem xe_isX (hz : Zc (.ref C) (some dd) oe) (hf : ∃ vs, oe.data = .fields vs) (hg : Gl (X.suite a ((a, oe) :: pn)) "isinstance") (hm : X.mg "isinstance" = none) (ps : PE (X.suite a ((a, oe) :: pn)) (.Name e p0) (tVar i)) (pc : PE (X.suite a ((a, oe) :: pn)) ce (tC cv)) (cl : ClsV cv u) (ec : ExcC X.K C) (ki : PySem.W.kitOne X.K (.ref C) u = some b)
    (hs : starEach [.Name e p0, ce] X.env = (false, eval (.Name e p0) X.env) :: starEach [ce] X.env := by rfl) (hs2 : starEach [ce] X.env = (false, eval ce X.env) :: starEach [] X.env := by rfl) (hpl : (backTo pos (starEach [ce] X.env)).any (·.1) = false := by rfl) : TrE (X.suite a ((a, oe) :: pn)) (.Call (.Name "isinstance" p) [.Name e p0, ce] [] pos) (fIsX i a C dd b) :=
  .of (pe_callB (call_isX hz hf) hg hm (by decide +kernel) (pa_cons ps (pa_cons pc pa_nil hs2) hs) (he := hs) (hpl := hpl)) fun W E ρ G σ H Q k x tk R lx lk h => by
  obtain ⟨fs, q, h⟩ := isExn_of h
  obtain ⟨q1, vs, g, _⟩ := R.exnAt q
  exact ⟨.ref a, q1, cv, u, C, dd, vs, b, rfl, cl, rfl, rfl, ec, R.sub _ _ g, ki, lk (.dat (.bool b)) ρ G _ H (Ex.refl G) R (.dat (.bl b)) h⟩
theorem cla_cons {Y : Cx} (h : PE Y ce (tC cv)) (t : PA Y ces fun _ H Q => Q cvs H) (hs : starEach (ce :: ces) Y.env = (false, eval ce Y.env) :: starEach ces Y.env := by rfl) : PA Y (ce :: ces) fun _ H Q => Q (cv :: cvs) H := pa_cons h t hs
theorem cla_nil {Y : Cx} : PA Y [] fun _ H Q => Q [] H := pa_nil
theorem xe_isXT (hz : Zc (.ref C) (some dd) oe) (hf : ∃ vs, oe.data = .fields vs) (hg : Gl (X.suite a ((a, oe) :: pn)) "isinstance") (hm : X.mg "isinstance" = none) (ps : PE (X.suite a ((a, oe) :: pn)) (.Name e p0) (tVar i)) (pc : PA (X.suite a ((a, oe) :: pn)) ces fun _ H Q => Q cvs H) (hl : cvs.length ≤ sizeLine) (cl : Paired ClsV cvs us) (ec : ExcC X.K C) (ki : PySem.W.kitAny X.K (.ref C) us = some b)
    (hs : starEach [.Name e p0, .Tuple ces kk p1] X.env = (false, eval (.Name e p0) X.env) :: starEach [.Tuple ces kk p1] X.env := by rfl) (hs2 : starEach [.Tuple ces kk p1] X.env = (false, eval (.Tuple ces kk p1) X.env) :: starEach [] X.env := by rfl) (hpl : (backTo pos (starEach [.Tuple ces kk p1] X.env)).any (·.1) = false := by rfl) : TrE (X.suite a ((a, oe) :: pn)) (.Call (.Name "isinstance" p) [.Name e p0, .Tuple ces kk p1] [] pos) (fIsX i a C dd b) :=
  .of (pe_callB (call_isXT hz hf) hg hm (by decide +kernel) (pa_cons ps (pa_cons (pe_tup pc) pa_nil hs2) hs) (he := hs) (hpl := hpl)) fun W E ρ G σ H Q k x tk R lx lk h => by
  obtain ⟨fs, q, h⟩ := isExn_of h
  obtain ⟨q1, vs, g, _⟩ := R.exnAt q
  refine ⟨.ref a, q1, hl, fun tp nt => ?_⟩
  have R2 := R.alloc (o := .tup cvs) nt
  exact ⟨tp, cvs, us, C, dd, vs, b, rfl, upd_same, cl, rfl, rfl, ec, R2.sub _ _ g, ki, lk (.dat (.bool b)) ρ G _ _ (Ex.refl G) R2 (.dat (.bl b)) h⟩
def fXf (i : Nat) (a C dd : Addr) (n : Str) : FE := fun ρ k _ => isExn ρ i a C dd fun fs => ∃ d, fs.lookup n = some d ∧ k (.dat d) ρ
theorem xe_xf (T : XfC X.K C) (hno : PySem.W.findIn X.K (.ref C) n = some none) (hz : Zc (.ref C) (some dd) oe) (hf : ∃ vs, oe.data = .fields vs) (ps : PE (X.suite a ((a, oe) :: pn)) (.Name e p0) (tVar i)) (hb : attributeBase (.Name e p0) n X.env (eval (.Name e p0) X.env) = eval (.Name e p0) X.env := by rfl) :
    TrE (X.suite a ((a, oe) :: pn)) (.Attribute (.Name e p0) n pos) (fXf i a C dd n) := .of (pe_xf T hno hz hf ps hb) fun W E ρ G σ H Q k x tk R lx lk h => by
  obtain ⟨fs, q, d, hd, h⟩ := isExn_of h
  obtain ⟨q1, vs, g, fl⟩ := R.exnAt q
  obtain ⟨v, hv, rv⟩ := flds_look fl hd
  exact ⟨.ref a, q1, rfl, rfl, dd, vs, v, rfl, R.sub _ _ g, hv, lk (.dat d) ρ G v H (Ex.refl G) R (.dat rv) h⟩
end
end Tr
set_option Elab.async false
set_option linter.all false
set_option maxRecDepth 100000
namespace Kx
open PySem PySem.Spec PyProof.Rows L2
end Kx
namespace Tr
open PySem PySem.Spec PyProof.Rows L2 Evl Kc Kz Kx
end Tr
set_option Elab.async false
set_option linter.all false
set_option maxRecDepth 100000
namespace Mg
open PySem PySem.Spec PyProof.Rows L2 Evl Kc Kz Kx Tr
abbrev Row := Str × Str
def rowD (r : Row) : D := .tuple [.str r.1, .str r.2]
abbrev flD (rows : List Row) : D := .list (rows.map rowD)
def isC (k : Str) : Bool := decide (k = "counter")
structure RowsOk (rows : List Row) (a b : Nat) : Prop where
  nd : (rows.map (·.1)).Nodup
  nm : ∀ r ∈ rows, wordB (.str r.1) = true
  kd : ∀ r ∈ rows, r.2 = "mine" ∨ r.2 = "theirs" ∨ r.2 = "counter"
  cs : (rows.filter fun r => isC r.2).length = b
  ls : (rows.filter fun r => !isC r.2).length = a
theorem RowsOk.len {rows : List Row} {a b : Nat} (h : RowsOk rows a b) : rows.length = a + b := by
  have key : ∀ l : List Row, l.length = (l.filter fun r => !isC r.2).length + (l.filter fun r => isC r.2).length := fun l => by
    induction l with
    | nil => rfl
    | cons r l ih =>
      rw [List.filter_cons, List.filter_cons, List.length_cons, ih]
      cases isC r.2
      · show _ = (r :: _).length + _
        rw [List.length_cons]
        simp only [if_false, Bool.false_eq_true]
        omega
      · show _ = _ + (r :: _).length
        rw [List.length_cons]
        simp only [if_false, Bool.false_eq_true, Bool.not_true]
        omega
  rw [key rows, h.cs, h.ls]
/-- a value of a field of kind k, ints of less than n bits -/
def ValOk (n : Nat) (k : Str) : D → Prop
  | .int i => k = "counter" ∧ i.natAbs < 2 ^ n
  | .str z => k ≠ "counter" ∧ wordB (.str z) = true
  | _ => False
/-- a version, ints of less than n bits -/
inductive VerOk (n : Nat) : List Row → List D → Prop
  | nil : VerOk n [] []
  | cons {r : Row} {d : D} {rs : List Row} {ds : List D} : ValOk n r.2 d → VerOk n rs ds → VerOk n (r :: rs) (d :: ds)
theorem ValOk.up {n m : Nat} {k : Str} {d : D} (h : ValOk n k d) (l : n ≤ m) : ValOk m k d := by
  cases d <;> first
    | exact h.elim
    | exact ⟨h.1, Nat.lt_of_lt_of_le h.2 (Nat.pow_le_pow_right (by decide) l)⟩
    | exact h
theorem VerOk.up {n m : Nat} (l : n ≤ m) : ∀ {rs : List Row} {ds : List D}, VerOk n rs ds → VerOk m rs ds
  | _, _, .nil => .nil
  | _, _, .cons h t => .cons (h.up l) (VerOk.up l t)
theorem VerOk.len {n : Nat} : ∀ {rs : List Row} {ds : List D}, VerOk n rs ds → rs.length = ds.length
  | _, _, .nil => rfl
  | _, _, .cons h t => congrArg (· + 1) (VerOk.len t)
theorem VerOk.get {n : Nat} : ∀ {rs : List Row} {ds : List D} {i : Nat} {r : Row}, VerOk n rs ds → rs[i]? = some r → ∃ d, ds[i]? = some d ∧ ValOk n r.2 d
  | _, _, i, _, .nil, e => by cases i <;> cases e
  | _, _, 0, _, .cons h _, e => by cases Option.some.inj e; exact ⟨_, rfl, h⟩
  | _, _, i + 1, _, .cons _ t, e => VerOk.get (i := i) t e
def pv (k : Str) : D → D → D → D
  | .int x, .int b, .int y => .int (x + y - b)
  | .str x, .str b, .str y => if k = "mine" then (if x = b then .str y else .str x) else (if y = b then .str x else .str y)
  | _, _, _ => .none
mutual
def wt : D → Nat
  | .none => 4
  | .bool _ => 5
  | .int _ => 1922
  | .str x => 10 * x.length + 2
  | .list xs => 4 + wts xs
  | .tuple xs => 4 + wts xs
  | .dict _ => 0
def wts : List D → Nat
  | [] => 0
  | x :: xs => wt x + 2 + wts xs
end
theorem str_len_app (a b : Str) : (a ++ b).length = a.length + b.length := by
  show (a.cps ++ b.cps).size = a.cps.size + b.cps.size
  exact Array.size_append
theorem text_le : ∀ (ts : List Str) (k : Nat) (acc : Str), (textFrom k acc ts).length ≤ acc.length + piled ts
  | [], _, acc => Nat.le_add_right _ _
  | t :: r, k, acc => by
    rw [piled_cons]
    have h := text_le r (k + 1) (acc ++ (if k > 0 then ", " else "" : String) ++ t)
    have e : (acc ++ ((if k > 0 then ", " else "" : String) : Str) ++ t).length ≤ acc.length + 2 + t.length := by
      rw [str_len_app, str_len_app]
      have : ((if k > 0 then ", " else "" : String) : Str).length ≤ 2 := by split <;> decide
      omega
    show (textFrom (k + 1) (acc ++ ((if k > 0 then ", " else "" : String) : Str) ++ t) r).length ≤ _
    omega
theorem join_le (ts : List Str) : (Str.join ", " ts).length ≤ piled ts := by
  by_cases h : ts = []
  · subst h
    decide
  · have jl := join_length_add ts h
    omega
mutual
theorem shown_le : ∀ d : D, d.canLay0 = true → d.showable = true → d.shown.length ≤ wt d
  | .none, _, _ => by simp only [PyData.shown, wt]; decide
  | .bool b, _, _ => by cases b <;> (simp only [PyData.shown, wt]; decide)
  | .int i, _, h => by
    simp only [PyData.shown, wt]
    simp only [PyData.showable, decide_eq_true_eq] at h
    have := int_text_len_1921 h
    exact Nat.le_succ_of_le this
  | .str x, h, _ => by
    simp only [PyData.shown, wt]
    simp only [PyData.canLay0, PyData.strOk] at h
    refine PySem.StrLaws.reprText_len x fun c hc => ?_
    rw [Array.all_eq_true'] at h
    have := h c (Array.mem_def.mpr hc)
    have : c < 0x110000 := by simpa using this
    omega
  | .list xs, h, g => by
    simp only [PyData.shown, wt]
    simp only [PyData.canLay0] at h
    simp only [PyData.showable] at g
    have h1 := shownAll_le xs h g
    have h2 := text_le (PyData.shownAll xs) 0 "["
    show (textFrom 0 "[" (PyData.shownAll xs) ++ "]").length ≤ _
    rw [str_len_app]
    have : ("[" : Str).length = 1 := rfl
    have : ("]" : Str).length = 1 := rfl
    omega
  | .tuple xs, h, g => by
    simp only [PyData.shown, wt]
    simp only [PyData.canLay0] at h
    simp only [PyData.showable] at g
    have h1 := shownAll_le xs h g
    have h2 := join_le (PyData.shownAll xs)
    show (("(" : Str) ++ Str.join ", " (PyData.shownAll xs) ++ ((if (PyData.shownAll xs).length == 1 then ",)" else ")" : String) : Str)).length ≤ _
    rw [str_len_app, str_len_app]
    have : ("(" : Str).length = 1 := rfl
    have : ((if (PyData.shownAll xs).length == 1 then ",)" else ")" : String) : Str).length ≤ 2 := by split <;> decide
    omega
  | .dict _, h, _ => by simp only [PyData.canLay0] at h; cases h
theorem shownAll_le : ∀ ds : List D, PyData.canLayAll0 ds = true → PyData.showableAll ds = true → piled (PyData.shownAll ds) ≤ wts ds
  | [], _, _ => by simp only [PyData.shownAll, wts]; decide
  | d :: ds, h, g => by
    simp only [PyData.canLayAll0, Bool.and_eq_true] at h
    simp only [PyData.showableAll, Bool.and_eq_true] at g
    simp only [PyData.shownAll, wts]
    rw [piled_cons]
    have h1 := shown_le d h.1 g.1
    have h2 := shownAll_le ds h.2 g.2
    omega
end
end Mg
set_option Elab.async false
set_option linter.all false
set_option maxRecDepth 100000
namespace Mg
open PySem PySem.Spec PyProof.Rows L2 Evl Kc Kz Kx Tr
abbrev tt' : AV := .dat (.bool true)
abbrev word (z : Str) : Prop := wordB (.str z) = true
abbrev sts (ws : List Str) : List D := ws.map PyData.str
abbrev three (k : Str) : Prop := k = "mine" ∨ k = "theirs" ∨ k = "counter"
abbrev schO (C : Addr) (rows : List Row) : AV := .obj C [("rows", .tuple (rows.map rowD))]
def F_word : FD := fun as k _ => ∃ ts : List Str, as = [.pot true, .dat (.list (sts ts))] ∧ ts.length ≤ 25 ∧ ∀ z : Str, word z → z ∉ ts → k (.dat (.str z))
def F_words : FD := fun as k _ => ∃ n : Nat, as = [.pot true, .dat (.int n)] ∧ n ≤ 20 ∧ ∀ ws : List Str, ws.length = n → ws.Nodup → (∀ z ∈ ws, word z) → k (.own false (.list (sts ws)))
def F_mixed : FD := fun as k _ => ∃ ds : List D, as = [.pot true, .dat (.list ds)] ∧ ds.length ≤ 100 ∧ ∀ es : List D, es.Perm ds → k (.own false (.list es))
def F_fields : FD := fun as k _ => ∃ a b : Nat, as = [.pot true, .dat (.int a), .dat (.int b)] ∧ a + b ≤ 20 ∧ ∀ rows, RowsOk rows a b → k (.own false (flD rows))
def F_step : FD := fun as k _ => ∃ far : Int, as = [.pot true, .dat (.int far)] ∧ ∀ n : Nat, n < 2 ^ 90 → k (.dat (.int n))
/-- what is planned for a field of kind k -/
def PlanAt (k : Str) (d : D) : Prop := (k = "counter" ∧ ∃ (a : Int) (s : Nat), d = .tuple [.int a, .int s] ∧ a.natAbs ≤ 20 ∧ s < 2 ^ 90) ∨
  (k ≠ "counter" ∧ ∃ (g : Nat) (ws : List Str) (b : Bool), d = .tuple [.int g, .list (sts ws), .bool b] ∧ g < 3 ∧ 0 < ws.length ∧ ws.length ≤ 8 ∧ ∀ z ∈ ws, word z)
inductive PlanOk : List Row → List D → Prop
  | nil : PlanOk [] []
  | snoc {rs : List Row} {ds : List D} {r : Row} {d : D} : PlanOk rs ds → PlanAt r.2 d → PlanOk (rs ++ [r]) (ds ++ [d])
def F_plan : FD := fun as k _ => ∃ (rows : List Row) (far : Int), as = [.pot true, .dat (flD rows), .dat (.int far)] ∧ rows.length ≤ 20 ∧ (∀ r ∈ rows, three r.2) ∧ ∀ ps, PlanOk rows ps → k (.own false (.list ps))
def F_row : FD := fun as k _ => ∃ (rows : List Row) (ps : List D), as = [.pot true, .dat (flD rows), .dat (.list ps)] ∧ rows.length ≤ 20 ∧ (∀ r ∈ rows, three r.2) ∧ PlanOk rows ps ∧ ∀ ds, VerOk 100 rows ds → k (.dat (.tuple ds))
def F_rows : FD := fun as k _ => ∃ (rows : List Row) (m : Nat) (far : Int), as = [.pot true, .dat (flD rows), .dat (.int m), .dat (.int far)] ∧ rows.length ≤ 20 ∧ (∀ r ∈ rows, three r.2) ∧ 0 < m ∧ m ≤ 60 ∧
  ∀ vs : List (List D), 0 < vs.length → vs.length ≤ m + 1 → (∀ v ∈ vs, VerOk 100 rows v) → k (.own false (.list (vs.map PyData.tuple)))
def F_among : FD := fun as k _ => ∃ ds : List D, as = [.pot true, .dat (.list ds)] ∧ 0 < ds.length ∧ ds.length ≤ 1000 ∧ ∀ d ∈ ds, k (.dat d)
def F_is_name : FD := fun as k _ => ∃ z : Str, as = [.dat (.str z)] ∧ word z ∧ k tt'
def F_whole : FD := fun as k _ => ∃ i : Int, as = [.dat (.int i)] ∧ k tt'
def F_field : FD := fun as k _ => ∃ r : Row, as = [.dat (rowD r)] ∧ word r.1 ∧ three r.2 ∧ k tt'
/-- r may come behind rows -/
def Fits (rows : List Row) (r : Row) : Prop := word r.1 ∧ three r.2 ∧ r.1 ∉ rows.map (·.1) ∧ (∀ q ∈ rows, three q.2) ∧ rows.length ≤ 20 ∧ (rows.filter fun q => isC q.2 == isC r.2).length ≠ (if isC r.2 then 4 else 12)
def F_problem : FD := fun as k _ => ∃ (rows : List Row) (r : Row), as = [.dat (rowD r), .dat (flD rows)] ∧ Fits rows r ∧ k (.dat .none)
def F_init : FJ := fun as k _ => ∃ (rows : List Row) (a b : Nat), as = [.dat (flD rows)] ∧ RowsOk rows a b ∧ a ≤ 12 ∧ b ≤ 4 ∧ 0 < a + b ∧ k (.tuple (rows.map rowD))
def F_slen (C : Addr) : FD := fun as k _ => ∃ ds : List D, as = [.obj C [("rows", .tuple ds)]] ∧ k (.dat (.int ds.length))
def F_sflds (C : Addr) : FD := fun as k _ => ∃ ds : List D, as = [.obj C [("rows", .tuple ds)]] ∧ k (.own false (.list ds))
def F_value : FD := fun as k _ => ∃ (kd : Str) (d : D) (n : Nat), as = [.dat (.str kd), .dat d] ∧ three kd ∧ ValOk n kd d ∧ k tt'
def F_version (C : Addr) : FD := fun as k _ => ∃ (rows : List Row) (ds : List D) (n : Nat), as = [schO C rows, .dat (.tuple ds)] ∧ rows.length ≤ 20 ∧ (∀ r ∈ rows, three r.2) ∧ VerOk n rows ds ∧ k tt'
def F_right : FD := fun as k _ => as = [.pot true] ∧ k tt'
def F_law : FD := fun as k _ => ∃ ns : List Int, as = [.scr ns] ∧ k tt'
theorem flds_one (C : Addr) : ∀ (fs : List (Str × D)) k, F_sflds C [.obj C fs] k (fun _ => False) → fs.lookup ("fields" : Str) = none := fun fs k ⟨ds, e, _⟩ => by
  cases e
  rfl
structure CvS (K : PySem.W.Frag) (mg : Str → Option Value) (C : Addr) : Prop where
  mgC : mg "Schema" = some (.ref C)
  cv : ∃ mc u1 u2, ClX.CRead K C mc ∧ ClX.CVal K C mc "MOST_LABELS" (.int 12) u1 ∧ ClX.CVal K C mc "MOST_COUNTERS" (.int 4) u2
structure FlS (K : PySem.W.Frag) (C : Addr) : Prop where
  cl : Cls K C
  nR : NoAttr K C "rows"
abbrev SchM (P : Program) (w : World) (K : PySem.W.Frag) (mg : Str → Option Value) (base : Heap) (C : Addr) : Prop := SchF P w K mg base C 4 F_init (F_slen C) (F_sflds C)
end Mg
set_option Elab.async false
set_option linter.all false
set_option maxRecDepth 100000
namespace Mg
open PySem PySem.Spec PyProof.Rows L2 Evl Kc Kz Kx Tr
/-- the field at i is a label field -/
def lab (rows : List Row) (i : Nat) : Bool :=
  match rows[i]? with
  | some r => !isC r.2
  | none => false
def marks (rows : List Row) : List Nat := (List.range rows.length).filter (lab rows)
abbrev iDs (ns : List Nat) : List D := ns.map fun (n : Nat) => PyData.int (n : Int)
def F_marks : FD := fun as k _ => ∃ rows : List Row, as = [.dat (flD rows)] ∧ rows.length ≤ 20 ∧ (∀ r ∈ rows, three r.2) ∧ k (.own false (.list (iDs (marks rows))))
def other (k : Str) : Str := if k = "mine" then "theirs" else if k = "theirs" then "mine" else "counter"
def F_bent : FD := fun as k _ => ∃ (rows : List Row) (ds : List D), as = [.pot true, .dat (flD rows), .dat (.tuple ds)] ∧ rows.length ≤ 20 ∧ (∀ r ∈ rows, three r.2) ∧ VerOk 100 rows ds ∧ ∀ es, VerOk 100 rows es → k (.dat (.tuple es))
end Mg
set_option Elab.async false
set_option linter.all false
set_option maxRecDepth 100000
namespace Mg
open PySem PySem.Spec PyProof.Rows L2 Evl Kc Kz Kx Tr
def stAt (v : List D) (i : Nat) : Option Str :=
  match v[i]? with
  | some (.str z) => some z
  | _ => none
/-- each one once, where it comes first -/
def uniq {α : Type} [DecidableEq α] (l : List α) : List α := l.foldl (fun acc z => if z ∈ acc then acc else acc ++ [z]) []
def two (v : List D) (i j : Nat) : Option Row :=
  match stAt v i, stAt v j with
  | some a, some b => some (a, b)
  | _, _ => none
def prs (vs : List (List D)) (i j : Nat) : List Row := vs.filterMap fun v => two v i j
abbrev tups (vs : List (List D)) : D := .list (vs.map PyData.tuple)
end Mg
set_option Elab.async false
set_option linter.all false
set_option maxRecDepth 100000
namespace Mg
open PySem PySem.Spec PyProof.Rows L2 Evl Kc Kz Kx Tr
def lnames (rows : List Row) : List Str := (rows.filter fun r => !isC r.2).map (·.1)
def strOf : D → Option Str
  | .str z => some z
  | _ => none
/-- the labels of a version -/
def labs (ds : List D) : List Str := ds.filterMap strOf
abbrev Stp := Nat × Nat × Nat
end Mg
set_option Elab.async false
set_option linter.all false
set_option maxRecDepth 100000
namespace K23
open PySem PySem.Spec PyProof.Rows L2 Evl Kc Kz Kx Tr Mg
def fb_law_word : FS := (sCons (sSet 2 (fC (.dat (.str "abcdefghijklmnopqrstuvwxyz")))) (sCons (sSet 3 (fMeth gJoin (fC (.dat (.str ""))) (fCons (fLc [4] (iR1 (fCons (f2 gIx (fDisp .newl (fCons (fC (.dat (.int (1)))) (fCons (fC (.dat (.int (1)))) (fCons (fC (.dat (.int (2)))) (fCons (fC (.dat (.int (8)))) fNil))))) (fCall 2 F_draw (fCons (fVar 0) (fCons (fC (.dat (.int (4)))) fNil)))) fNil)) (gN 4) fYes (f2 gIx (fVar 2) (fCall 2 F_draw (fCons (fVar 0) (fCons (fC (.dat (.int (26)))) fNil))))) fNil))) (sCons (sIf (fTest (f2 (gIn false) (fVar 3) (fVar 1))) (sSet 3 (f2 gIx (fLc [5] (iSeq sK (fFrz 2)) (gN 5) (fTest (f2 (gIn true) (fVar 5) (fVar 1))) (fFrz 5)) (fC (.dat (.int (0)))))) sNil) (sRet (fVar 3)))))
def fb_law_words : FS := (sCons (sSet 2 (fDisp .newl fNil)) (sCons (sFor (iR1 (fCons (fVar 1) fNil)) (gN 3) (sExpr (fMut 2 mAppend (fCons (fCall 2 F_word (fCons (fVar 0) (fCons (fVar 2) fNil))) fNil)))) (sRet (fVar 2))))
def fb_law_mixed : FS := (sCons (sSet 2 (fB (g1 gList) (fCons (fVar 1) fNil))) (sRet (fLc [3] (iR1 (fCons (fB (g1 gLen) (fCons (fVar 1) fNil)) fNil)) (gN 3) fYes (fMut 2 mPopAt (fCons (fCall 2 F_draw (fCons (fVar 0) (fCons (fB (g1 gLen) (fCons (fVar 2) fNil)) fNil))) fNil)))))
def fb_law_fields : FS := (sCons (sSet 3 (f2 gAdd (fLc [4] (iR1 (fCons (fVar 1) fNil)) (gN 4) fYes (f2 gIx (fDisp .newl (fCons (fC (.dat (.str "mine"))) (fCons (fC (.dat (.str "theirs"))) fNil))) (fCall 2 F_draw (fCons (fVar 0) (fCons (fC (.dat (.int (2)))) fNil))))) (f2 gMul (fDisp .newl (fCons (fC (.dat (.str "counter"))) fNil)) (fVar 2)))) (sRet (fLZ (fCons (fCall 2 F_words (fCons (fVar 0) (fCons (f2 gAdd (fVar 1) (fVar 2)) fNil))) (fCons (fCall 2 F_mixed (fCons (fVar 0) (fCons (fVar 3) fNil))) fNil)))))
def fb_law_step : FS := (sCons (sSet 2 (f2 gIx (fDisp .newl (fCons (fC (.dat (.int (0)))) (fCons (fC (.dat (.int (1)))) (fCons (fC (.dat (.int (2)))) (fCons (fC (.dat (.int (3)))) (fCons (fC (.dat (.int (4)))) (fCons (fC (.dat (.int (6)))) fNil))))))) (fCall 2 F_draw (fCons (fVar 0) (fCons (fC (.dat (.int (6)))) fNil))))) (sRet (fIf (fOr (fTest (f2 gEq (fVar 1) (fC (.dat (.int (0)))))) (fTest (f2 gEq (fCall 2 F_draw (fCons (fVar 0) (fCons (fC (.dat (.int (2)))) fNil))) (fC (.dat (.int (0))))))) (fVar 2) (f2 gAdd (f2 gMul (fVar 2) (f2 (gI CPow fun i j => .int (i ^ j.toNat)) (fC (.dat (.int (10)))) (fC (.dat (.int (25)))))) (fCall 2 F_draw (fCons (fVar 0) (fCons (f2 (gI CPow fun i j => .int (i ^ j.toNat)) (fC (.dat (.int (10)))) (fC (.dat (.int (9))))) fNil)))))))
def fb_law_plan : FS := (sCons (sParK 3 4 (fDisp .newl (fCons (f2 gAdd (fC (.dat (.int (1)))) (fCall 2 F_draw (fCons (fVar 0) (fCons (fC (.dat (.int (4)))) fNil)))) (fCons (f2 gAdd (fC (.dat (.int (2)))) (fCall 2 F_draw (fCons (fVar 0) (fCons (fC (.dat (.int (2)))) fNil)))) (fCons (fC (.dat (.int (2)))) fNil)))) (fDisp .newl fNil)) (sCons (sFor (iSeq lK (fFrz 1)) (gT 2 (gsCons (gN 5) (gsCons (gN 6) gsNil))) (sIf (fTest (f2 gEq (fVar 6) (fC (.dat (.str "counter"))))) (sExpr (fMut 4 mAppend (fCons (fDisp .newt (fCons (f2 (gI0 fun i j => .int (i - j)) (fCall 2 F_draw (fCons (fVar 0) (fCons (fC (.dat (.int (41)))) fNil))) (fC (.dat (.int (20))))) (fCons (fCall 2 F_step (fCons (fVar 0) (fCons (fVar 2) fNil))) fNil))) fNil))) (sCons (sSet 7 (fCall 2 F_draw (fCons (fVar 0) (fCons (fC (.dat (.int (3)))) fNil)))) (sCons (sSet 8 (fIf (fTest (f2 gGt (fCall 2 F_draw (fCons (fVar 0) (fCons (fC (.dat (.int (5)))) fNil))) (fC (.dat (.int (0)))))) (f2 gIx (fVar 3) (fVar 7)) (f2 gAdd (fC (.dat (.int (1)))) (fCall 2 F_draw (fCons (fVar 0) (fCons (fC (.dat (.int (8)))) fNil)))))) (sExpr (fMut 4 mAppend (fCons (fDisp .newt (fCons (fFrz 7) (fCons (fCall 2 F_words (fCons (fVar 0) (fCons (fVar 8) fNil))) (fCons (f2 gEq (fCall 2 F_draw (fCons (fVar 0) (fCons (fC (.dat (.int (6)))) fNil))) (fC (.dat (.int (0))))) fNil)))) fNil))))))) (sRet (fVar 4))))
def fb_law_row : FS := (sCons (sParK 3 4 (fDisp .newl (fCons (fCall 2 F_draw (fCons (fVar 0) (fCons (fC (.dat (.int (4)))) fNil))) (fCons (fCall 2 F_draw (fCons (fVar 0) (fCons (fC (.dat (.int (4)))) fNil))) (fCons (fCall 2 F_draw (fCons (fVar 0) (fCons (fC (.dat (.int (4)))) fNil))) fNil)))) (fDisp .newl fNil)) (sCons (sFor (iEn (fCons (fFrz 1) fNil)) (gT 2 (gsCons (gN 5) (gsCons (gN 6) gsNil))) (sIf (fTest (f2 gEq (f2 gIx (fVar 6) (fC (.dat (.int (1))))) (fC (.dat (.str "counter"))))) (sExpr (fMut 4 mAppend (fCons (f2 gAdd (f2 gIx (f2 gIx (fVar 2) (fVar 5)) (fC (.dat (.int (0))))) (f2 gMul (f2 gIx (f2 gIx (fVar 2) (fVar 5)) (fC (.dat (.int (1))))) (f2 (gI0 fun i j => .int (i - j)) (fCall 2 F_draw (fCons (fVar 0) (fCons (fC (.dat (.int (7)))) fNil))) (fC (.dat (.int (3))))))) fNil))) (sCons (sAsg (f2 gIx (fVar 2) (fVar 5)) (gT 3 (gsCons (gN 7) (gsCons (gN 8) (gsCons (gN 9) gsNil))))) (sCons (sSet 10 (fIf (fTest (fVar 9)) (fCall 2 F_draw (fCons (fVar 0) (fCons (fB (g1 gLen) (fCons (fVar 8) fNil)) fNil))) (f2 gIx (fVar 3) (fVar 7)))) (sExpr (fMut 4 mAppend (fCons (f2 gIx (fVar 8) (f2 (gI (fun _ j => 0 < j) fun i j => .int (i % j)) (fVar 10) (fB (g1 gLen) (fCons (fVar 8) fNil)))) fNil))))))) (sRet (fB (g1 gTuple) (fCons (fVar 4) fNil)))))
def fb_law_rows : FS := (sCons (sSet 4 (fCall 3 F_plan (fCons (fVar 0) (fCons (fVar 1) (fCons (fVar 3) fNil))))) (sCons (sSet 5 (fLc [6] (iR1 (fCons (f2 gAdd (fC (.dat (.int (1)))) (fCall 2 F_draw (fCons (fVar 0) (fCons (fVar 2) fNil)))) fNil)) (gN 6) fYes (fCall 3 F_row (fCons (fVar 0) (fCons (fVar 1) (fCons (fVar 4) fNil)))))) (sCons (sIf (fTest (f2 gEq (fCall 2 F_draw (fCons (fVar 0) (fCons (fC (.dat (.int (5)))) fNil))) (fC (.dat (.int (0)))))) (sExpr (fMut 5 mAppend (fCons (f2 gIx (fVar 5) (fCall 2 F_draw (fCons (fVar 0) (fCons (fB (g1 gLen) (fCons (fVar 5) fNil)) fNil)))) fNil))) sNil) (sRet (fVar 5)))))
def fb_law : FS := (sRet (fB (g1 gAll) (fCons (fLc [1] (iR1 (fCons (fB (g2 gMax2) (fCons (fC (.dat (.int (1)))) (fCons (fB (g2 gMin2) (fCons (fScrLen (fVar 0)) (fCons (fC (.dat (.int (4)))) fNil))) fNil))) fNil)) (gN 1) fYes (fCallP F_right (fCall 2 F_pot (fCons (fVar 0) (fCons (fVar 1) fNil))))) fNil)))
def fb_is_name : FS := (sCons (sIf (fNot (fTest (f1 (fun d k => k (.val (.bool (isT "str" d)))) (fVar 0)))) (sRet (fC (.dat (.bool false)))) sNil) (sRet (fAndV (fCh (fun i j => decide (i ≤ j)) (fun i j => decide (i ≤ j)) (fC (.dat (.int (1)))) (fB (g1 gLen) (fCons (fVar 0) fNil)) (fC (.dat (.int (8))))) (fB (g1 gAll) (fCons (fLc [1] (iSeq sK (fFrz 0)) (gN 1) fYes (f2 (gIn false) (fVar 1) (fC (.dat (.str "abcdefghijklmnopqrstuvwxyz"))))) fNil)))))
def fb_is_whole_number : FS := (sRet (fAndV (f1 (fun d k => k (.val (.bool (isT "int" d)))) (fVar 0)) (fNotV (f1 (fun d k => k (.val (.bool (isT "bool" d)))) (fVar 0)))))
def fb_is_field : FS := (sCons (sIf (fOr (fNot (fTest (f1 (fun d k => k (.val (.bool (isT "tuple" d)))) (fVar 0)))) (fTest (f2 gNe (fB (g1 gLen) (fCons (fVar 0) fNil)) (fC (.dat (.int (2))))))) (sRet (fC (.dat (.bool false)))) sNil) (sCons (sAsg (fFrz 0) (gT 2 (gsCons (gN 1) (gsCons (gN 2) gsNil)))) (sRet (fAndV (fCall 1 F_is_name (fCons (fVar 1) fNil)) (fAndV (f1 (fun d k => k (.val (.bool (isT "str" d)))) (fVar 2)) (f2 (gIn false) (fVar 2) (fC (.dat (.tuple [.str "mine", .str "theirs", .str "counter"])))))))))
def fb_field_problem (C : Addr) : FS := (sCons (sIf (fNot (fTest (fCall 1 F_field (fCons (fVar 0) fNil)))) (sRet (fC (.dat (.str "field")))) sNil) (sCons (sAsg (fFrz 0) (gT 2 (gsCons (gN 2) (gsCons (gN 3) gsNil)))) (sCons (sIf (fTest (f2 (gIn false) (fVar 2) (fLc [6] (iSeq lK (fFrz 1)) (gN 6) fYes (f2 gIx (fVar 6) (fC (.dat (.int (0)))))))) (sRet (fC (.dat (.str "duplicate")))) sNil) (sCons (sSet 4 (fLc [6] (iSeq lK (fFrz 1)) (gN 6) (fTest (f2 gEq (f2 gEq (f2 gIx (fVar 6) (fC (.dat (.int (1))))) (fC (.dat (.str "counter")))) (f2 gEq (fVar 3) (fC (.dat (.str "counter")))))) (fFrz 6))) (sCons (sSet 5 (fIf (fTest (f2 gEq (fVar 3) (fC (.dat (.str "counter"))))) (fC (.dat (.int 4))) (fC (.dat (.int 12))))) (sRet (fIf (fTest (f2 gEq (fB (g1 gLen) (fCons (fVar 4) fNil)) (fVar 5))) (fC (.dat (.str "many"))) (fC (.dat (.none))))))))))
def fb_is_value : FS := (sRet (fIf (fTest (f2 gEq (fVar 0) (fC (.dat (.str "counter"))))) (fCall 1 F_whole (fCons (fVar 1) fNil)) (fCall 1 F_is_name (fCons (fVar 1) fNil))))
def fb_is_version (C : Addr) : FS := (sCons (sIf (fOr (fNot (fTest (f1 (fun d k => k (.val (.bool (isT "tuple" d)))) (fVar 1)))) (fTest (f2 gNe (fB (g1 gLen) (fCons (fVar 1) fNil)) (fLenO C (F_slen C) (fVar 0))))) (sRet (fC (.dat (.bool false)))) sNil) (sRet (fB (g1 gAll) (fCons (fLc [2, 3, 4] (iZM (fCons (fM0 C (F_sflds C) (fVar 0)) (fCons (fFrz 1) fNil))) (gT 2 (gsCons (gT 2 (gsCons (gN 2) (gsCons (gN 3) gsNil))) (gsCons (gN 4) gsNil))) fYes (fCall 2 F_value (fCons (fVar 3) (fCons (fVar 4) fNil)))) fNil))))
def fb_init (p : Addr) : S → (D → Prop) → KX → Prop := (lCons (sIf (fOr (fNot (fTest (f1 (fun d k => k (.val (.bool (isT "list" d || isT "tuple" d)))) (fVar 1)))) (fTest (f2 gEq (fB (g1 gLen) (fCons (fVar 1) fNil)) (fC (.dat (.int (0))))))) (fun _ _ _ => False) sNil) (lCons (sSet 2 (fDisp .newl fNil)) (lCons (sFor (iEn (fCons (fFrz 1) fNil)) (gT 2 (gsCons (gN 3) (gsCons (gN 4) gsNil))) (sCons (sSet 5 (fCall 2 F_problem (fCons (fVar 4) (fCons (fVar 2) fNil)))) (sCons (sIf (fTest (f2 (gIsN true) (fVar 5) (fC (.dat (.none))))) (fun _ _ _ => False) sNil) (sCons (sAsg (fFrz 4) (gT 2 (gsCons (gN 6) (gsCons (gN 7) gsNil)))) (sExpr (fMut 2 mAppend (fCons (fDisp .newt (fCons (fFrz 6) (fCons (fFrz 7) fNil))) fNil))))))) (lOne p (fB (g1 gTuple) (fCons (fVar 2) fNil))))))
def fb_slen (C : Addr) : FS := (sRet (fB (g1 gLen) (fCons (fFld C "rows" (fVar 0)) fNil)))
def fb_sflds (C : Addr) : FS := (sRet (fB (g1 gList) (fCons (fFld C "rows" (fVar 0)) fNil)))
end K23
set_option Elab.async false
set_option linter.all false
set_option maxRecDepth 100000
namespace K22
open PySem PySem.Spec PyProof.Rows L2 Evl Kc Kz Kx Tr Mg K23
def fb_law_bent : FS := (sCons (sSet 3 (fCall 1 F_marks (fCons (fVar 1) fNil))) (sCons (sIf (fOr (fTest (f2 gEq (fVar 3) (fDisp .newl fNil))) (fTest (f2 gGt (fCall 2 F_draw (fCons (fVar 0) (fCons (fC (.dat (.int (3)))) fNil))) (fC (.dat (.int (0))))))) (sRet (fVar 2)) sNil) (sCons (sSet 4 (fCall 2 F_among (fCons (fVar 0) (fCons (fVar 3) fNil)))) (sRet (f2 gAdd (f2 gAdd (fSl (fVar 2) oNone (oSome (fVar 4))) (fDisp .newt (fCons (fCall 2 F_word (fCons (fVar 0) (fCons (fDisp .newl fNil) fNil))) fNil))) (fSl (fVar 2) (oSome (f2 gAdd (fVar 4) (fC (.dat (.int (1)))))) oNone))))))
end K22
set_option Elab.async false
set_option linter.all false
set_option maxRecDepth 100000
namespace K27
open PySem PySem.Spec PyProof.Rows L2 Evl Kc Kz Kx Tr Mg K23 K22
end K27
set_option Elab.async false
set_option linter.all false
set_option maxRecDepth 100000
namespace K24
open PySem PySem.Spec PyProof.Rows L2 Evl Kc Kz Kx Tr Mg K23 K22 K27
end K24
set_option Elab.async false
set_option linter.all false
set_option maxRecDepth 100000
namespace Mg
open PySem PySem.Spec PyProof.Rows L2 Evl Kc Kz Kx Tr
/-- texts are short enough to be looked at -/
def shortD : D → Prop
  | .str z => z.length ≤ 1000
  | _ => True
def nameB : D → Bool
  | .str z => wordB (.str z)
  | _ => false
def wholeB : D → Bool
  | .int _ => true
  | _ => false
def valueB (k : Str) (d : D) : Bool := if k = "counter" then wholeB d else nameB d
def valuesB : List Row → List D → Bool
  | r :: rs, d :: ds => valueB r.2 d && valuesB rs ds
  | [], [] => true
  | _, _ => false
def versionB (rows : List Row) : D → Bool
  | .tuple ds => valuesB rows ds
  | _ => false
def shortVs : D → Prop
  | .tuple ds => ∀ d ∈ ds, shortD d
  | _ => True
def F_nameA : FD := fun as k _ => ∃ d : D, as = [.dat d] ∧ shortD d ∧ k (.dat (.bool (nameB d)))
def F_wholeA : FD := fun as k _ => ∃ d : D, as = [.dat d] ∧ k (.dat (.bool (wholeB d)))
def F_valueA : FD := fun as k _ => ∃ (kd : Str) (d : D), as = [.dat (.str kd), .dat d] ∧ three kd ∧ shortD d ∧ k (.dat (.bool (valueB kd d)))
def F_versionA (C : Addr) : FD := fun as k _ => ∃ (rows : List Row) (d : D), as = [schO C rows, .dat d] ∧ rows.length ≤ 20 ∧ (∀ r ∈ rows, three r.2) ∧ shortVs d ∧ (∀ ds, d = .tuple ds → ds.length ≤ 1000) ∧ k (.dat (.bool (versionB rows d)))
def seqL : D → Option (List D)
  | .list ds => some ds
  | .tuple ds => some ds
  | _ => none
def tupL : D → List D
  | .tuple ds => ds
  | _ => []
/-- the labels with the number j -/
def colA (ds : List D) (j : Nat) : List Str := ds.filterMap fun d => (labs (tupL d))[j]?
/-- the item at i is no version, or brings a ninth value -/
def badAt (rows : List Row) (ds : List D) (i : Nat) : Bool := !versionB rows (ds.getD i .none) || (List.range (lnames rows).length).any fun j => decide (8 < (uniq (colA (ds.take (i + 1)) j)).length)
abbrev exI (Dv : Addr) (i : Int) : Exn := ⟨Dv, [("index", .int i)]⟩
def F_knownX (C Dv : Addr) : FD := fun as k x => ∃ (rows : List Row) (d : D), as = [schO C rows, .dat d] ∧ rows.length ≤ 20 ∧ (∀ r ∈ rows, three r.2) ∧ (∀ ds, seqL d = some ds → ∀ e ∈ ds, shortVs e ∧ ∀ us, e = .tuple us → us.length ≤ 1000) ∧ (∀ z, d = .str z → z.length ≤ 1000) ∧
  (seqL d = none → x (exI Dv (-1))) ∧ ∀ ds, seqL d = some ds → (¬ (1 ≤ ds.length ∧ ds.length ≤ 40) → x (exI Dv (-1))) ∧ (1 ≤ ds.length → ds.length ≤ 40 → (∀ i : Nat, i < ds.length → badAt rows ds i = true → (∀ m, m < i → badAt rows ds m = false) → x (exI Dv i)) ∧ ((∀ i, i < ds.length → badAt rows ds i = false) → k (.own false (.list ds))))
end Mg
set_option Elab.async false
set_option linter.all false
set_option maxRecDepth 100000
namespace KA
open PySem PySem.Spec PyProof.Rows L2 Evl Kc Kz Kx Tr Mg
def fb_is_name : FS := (sCons (sIf (fNot (fTest (f1 (fun d k => k (.val (.bool (isT "str" d)))) (fVar 0)))) (sRet (fC (.dat (.bool false)))) sNil) (sRet (fAndV (fCh (fun i j => decide (i ≤ j)) (fun i j => decide (i ≤ j)) (fC (.dat (.int (1)))) (fB (g1 gLen) (fCons (fVar 0) fNil)) (fC (.dat (.int (8))))) (fB (g1 gAll) (fCons (fLc [1] (iSeq sK (fFrz 0)) (gN 1) fYes (f2 (gIn false) (fVar 1) (fC (.dat (.str "abcdefghijklmnopqrstuvwxyz"))))) fNil)))))
def fb_is_whole_number : FS := (sRet (fAndV (f1 (fun d k => k (.val (.bool (isT "int" d)))) (fVar 0)) (fNotV (f1 (fun d k => k (.val (.bool (isT "bool" d)))) (fVar 0)))))
def fb_is_value : FS := (sRet (fIf (fTest (f2 gEq (fVar 0) (fC (.dat (.str "counter"))))) (fCall 1 F_wholeA (fCons (fVar 1) fNil)) (fCall 1 F_nameA (fCons (fVar 1) fNil))))
def fb_is_version (C : Addr) : FS := (sCons (sIf (fOr (fNot (fTest (f1 (fun d k => k (.val (.bool (isT "tuple" d)))) (fVar 1)))) (fTest (f2 gNe (fB (g1 gLen) (fCons (fVar 1) fNil)) (fLenO C (F_slen C) (fVar 0))))) (sRet (fC (.dat (.bool false)))) sNil) (sRet (fB (g1 gAll) (fCons (fLc [2, 3, 4] (iZM (fCons (fM0 C (F_sflds C) (fVar 0)) (fCons (fFrz 1) fNil))) (gT 2 (gsCons (gT 2 (gsCons (gN 2) (gsCons (gN 3) gsNil))) (gsCons (gN 4) gsNil))) fYes (fCall 2 F_valueA (fCons (fVar 3) (fCons (fVar 4) fNil)))) fNil))))
end KA
set_option Elab.async false
set_option linter.all false
set_option maxRecDepth 100000
namespace Tr
open PySem PySem.Spec PyProof.Rows L2 Evl Kc Kz
end Tr
set_option Elab.async false
set_option linter.all false
set_option maxRecDepth 100000
set_option maxHeartbeats 4000000
namespace KA
open PySem PySem.Spec PyProof.Rows L2 Evl Kc Kz Kx Tr Mg
end KA
set_option Elab.async false
set_option linter.all false
set_option maxRecDepth 100000
namespace Tr
open PySem PySem.Spec PyProof.Rows L2 Evl Kc Kz Kx
def swp {α : Type} : List α → List α
  | [a, b] => [b, a]
  | _ => []
def swpKC {α : Type} (us ws : List α) : List α := match us with | [] => swp ws | _ => []
section
variable {X : Cx} {CX : CXT} {k n : Nat} {f : Addr} {fd : FuncData} {ps ks : List Str} {sp : Sp} {E : L2.St → XK} {x a b : Str} {p pos kp1 kp2 : Pos} {e1 e2 : Expr} {fa fb : FE} {F : FD} {kws : List Keyword} {tk : TA}
  {g : List Value → List Value → List Value} {gV : List V → List V → List V}
def tCallKS (sp : Sp) (gV : List V → List V → List V) (E : L2.St → XK) (tk : TA) : TE := fun σ H Q => tk σ H fun zs H2 => sp (gV [] zs) H2 Q (E σ)
theorem run_fnkS {pins : List (Addr × Obj)} {σ : L2.St} {H : Hp} {s : Shared} {Q : VK} {ws : List Value} {zs : List V} (F : FnG X.prog X.w X.K X.mg X.base CX k f fd ps sp) (gd : X.A.guards = some []) (hr : Room k X.A) (hb : KBinds X.K fd ps ks g gV) (hx : PassesAt CX X σ (E σ))
    (I : Inv X pins σ H s) (rz : Vals zs ws) (h : sp (gV [] zs) H Q (E σ)) : wpAny (model X.prog X.w) X.A (call (.ref f) [] (ks.zip ws)) (EP X pins σ Q) X.xe s := by
  have r2 := hb.rel (vs := []) (us := []) .nil rz
  have hl : (g [] ws).length = ps.length := by rw [← r2.length]; exact F.many _ _ _ _ h
  refine wpAny_call (codeAny_mono (F.goes X.A X.stack s H ⟨[], ks.zip ws⟩ (g [] ws) (gV [] zs) Q (E σ) gd hr I.env0 (hb.to s [] ws I.kIn hl) r2 h) fun r s' hq => ?_)
  cases r with
  | error err => exact hx pins H s err s' I hq
  | ok fl =>
    cases fl with
    | ret u => exact I.after hq
    | next => exact hq.elim
    | brk => exact hq.elim
    | cont => exact hq.elim
theorem pe_callKS (F : FnG X.prog X.w X.K X.mg X.base CX k f fd ps sp) (gd : X.A.guards = some []) (room : Room k X.A) (hg : Gl X x) (hm : X.mg x = some (.ref f))
    (hk : PySem.W.keepIn X.K (.ref f) = true) (hb : KBinds X.K fd ps ks g gV) (hx : ∀ σ, PassesAt CX X σ (E σ)) (hkw : PK X kws tk)
    (hall : (backToKw pos (keywordEach kws X.env)).all (·.1.isSome) = true := by rfl)
    (hks : (backToKw pos (keywordEach kws X.env)).filterMap (·.1) = ks := by rfl)
    (hdb : (x == ("__debug__" : Str)) = false := by decide)
    (plain : ((backTo pos (starEach [] X.env)).any (·.1) || (backToKw pos (keywordEach kws X.env)).any (·.1.isNone)) = false := by rfl) : PE X (.Call (.Name x p) [] kws pos) (tCallKS sp gV E tk) := by
  refine ⟨fun pins s σ H Q I want => wpAny_Call_Name_kw (ld_glob I hg hm ?_ hdb)⟩
  refine PySem.W.callWith_KW0 (h₀ := X.base) I.ok.mod.kin hk hall ?_ plain
  refine thn (hkw.run pos pins s σ H _ I want) fun ws s2 ⟨zs, H2, I2, rz, q2⟩ => ⟨I2.kIn, ?_⟩
  rw [hks]
  exact run_fnkS F gd room hb (hx σ) I2 rz q2
/-- the arguments in the other order -/
def fSwp (fr : FA) : FA := fun ρ k x => fr ρ (fun as ρ1 => k (swp as) ρ1) x
theorem paired_swp {α β : Type} {P : α → β → Prop} {as : List α} {bs : List β} (h : Paired P as bs) : Paired P (swp as) (swp bs) := by
  cases h with
  | nil => exact .nil
  | cons h1 h =>
    cases h with
    | nil => exact .nil
    | cons h2 h =>
      cases h with
      | nil => exact .cons h2 (.cons h1 .nil)
      | cons h3 h => exact .nil
theorem xe_callKw2 (Fn : FnG X.prog X.w X.K X.mg X.base (L2.CX X.prog X.w) k f fd ps (spT X.K n F)) (gd : X.A.guards = some []) (hr : Room k X.A) (hg : Gl X x) (hm : X.mg x = some (.ref f)) (hk : PySem.W.keepIn X.K (.ref f) = true)
    (hb : KBinds X.K fd ps [a, b] swpKC swpKC) (h1 : TrE X e1 fa) (h2 : TrE X e2 fb)
    (hall : (backToKw pos (keywordEach [⟨some a, e1, kp1⟩, ⟨some b, e2, kp2⟩] X.env)).all (·.1.isSome) = true := by rfl)
    (hks : (backToKw pos (keywordEach [⟨some a, e1, kp1⟩, ⟨some b, e2, kp2⟩] X.env)).filterMap (·.1) = [a, b] := by rfl)
    (hdb : (x == ("__debug__" : Str)) = false := by decide)
    (plain : ((backTo pos (starEach [] X.env)).any (·.1) || (backToKw pos (keywordEach [⟨some a, e1, kp1⟩, ⟨some b, e2, kp2⟩] X.env)).any (·.1.isNone)) = false := by rfl) :
    TrE X (.Call (.Name x p) [] [⟨some a, e1, kp1⟩, ⟨some b, e2, kp2⟩] pos) (fCall n F (fSwp (fCons fa (fCons fb fNil)))) := fun W E ρ G σ H Q k x tk R lx lk hf pins s I =>
  (pe_callKS Fn gd hr hg hm hk hb (fun σ => passAt tk.1 σ) (pk_cons pe_w (pk_cons pe_w pk_nil)) hall hks hdb plain).run pins s σ H Q I
    (ref_cons h1 (ref_cons h2 (fun W E ρ G σ H Q k x tk R lx lk h => lk [] ρ G [] H (Ex.refl G) R .nil h)) W E ρ G σ H _ _ x tk R lx (fun as ρ1 G1 vs H1 e1 R1 q1 h1 => ref_call R1 lx (lk.up e1) (paired_swp q1) h1) hf)
end
def fApN (fa : FE) : FE := fun ρ k x => fa ρ (fun a ρ1 => match a with | .own false (.list ds) => ds.length < sizeLine ∧ k (.dat .none) ρ1 | _ => False) x
theorem swp_rel {vs : List V} {us : List Value} {zs : List V} {ws : List Value} (r : Vals vs us) (z : Vals zs ws) : Vals (swpKC vs zs) (swpKC us ws) := by
  cases r with
  | nil => exact paired_swp z
  | cons _ _ => exact .nil
/-- a def of two parameters that may be called by their names in the other order -/
structure DefK (P : Program) (w : World) (K : PySem.W.Frag) (mg : Str → Option Value) (base : Heap) (nm a b : Str) (l : Nat) (F : FD) : Prop where
  ex : ∃ f fd, FnG P w K mg base (L2.CX P w) l f fd [a, b] (spT K 2 F) ∧ mg nm = some (.ref f) ∧ PySem.W.keepIn K (.ref f) = true ∧ KBinds K fd [a, b] [b, a] swpKC swpKC
section
variable {X : Cx} {P : Program} {w : World} {K : PySem.W.Frag} {mg : Str → Option Value} {base : Heap} {nm a b : Str} {l k : Nat} {F : FD} {e1 e2 : Expr} {fa fb : FE} {p pos kp1 kp2 : Pos}
theorem xe_callDK (d : DefK P w K mg base nm a b l F) (i : In X P w K mg base) (gd : X.A.guards = some []) (hr : Room k X.A) (hk : l ≤ k) (hg : Gl X nm) (h1 : TrE X e1 fa) (h2 : TrE X e2 fb)
    (hall : (backToKw pos (keywordEach [⟨some b, e1, kp1⟩, ⟨some a, e2, kp2⟩] X.env)).all (·.1.isSome) = true := by rfl)
    (hks : (backToKw pos (keywordEach [⟨some b, e1, kp1⟩, ⟨some a, e2, kp2⟩] X.env)).filterMap (·.1) = [b, a] := by rfl)
    (hdb : (nm == ("__debug__" : Str)) = false := by decide)
    (plain : ((backTo pos (starEach [] X.env)).any (·.1) || (backToKw pos (keywordEach [⟨some b, e1, kp1⟩, ⟨some a, e2, kp2⟩] X.env)).any (·.1.isNone)) = false := by rfl) :
    TrE X (.Call (.Name nm p) [] [⟨some b, e1, kp1⟩, ⟨some a, e2, kp2⟩] pos) (fCall 2 F (fSwp (fCons fa (fCons fb fNil)))) := by
  obtain ⟨rfl, rfl, rfl, rfl, rfl⟩ := i
  obtain ⟨f, fd, ok, m, kp, kb⟩ := d.ex
  exact xe_callKw2 ok gd (hr.mono hk) hg m kp kb h1 h2 hall hks hdb plain
end
def sPutL (i j : Nat) (fe : FE) : FS := fun ρ N x => fe ρ (fun a ρ1 => fz a fun a' => match a' with
  | .dat d => ownL ρ1 i fun b ds => b = false ∧ ∃ n : Nat, ρ1[j]? = some (some (.dat (.int n))) ∧ n < ds.length ∧ N.nx (ρ1.set i (some (.own false (.list (ds.set n d)))))
  | _ => False) x
abbrev iSeqA (fa : FE) : FI := iOr (iSeq lK fa) (iSeq tK fa)
theorem ti_seqA {X : Cx} {tg e : Expr} {fa : FE} (h : TrE X e fa) : TrI X tg e (iSeqA fa) := TrI.or (ti_list h) (ti_tup h)
end Tr
set_option Elab.async false
set_option linter.all false
set_option maxRecDepth 100000
set_option maxHeartbeats 4000000
namespace KA
open PySem PySem.Spec PyProof.Rows L2 Evl Kc Kz Kx Tr Mg
def fb_law_is_int : FS := (sRet (fAndV (f1 (fun d k => k (.val (.bool (isT "int" d)))) (fVar 0)) (fNotV (f1 (fun d k => k (.val (.bool (isT "bool" d)))) (fVar 0)))))
def fb_law_is_word : FS := (sCons (sIf (fOr (fNot (fTest (f1 (fun d k => k (.val (.bool (isT "str" d)))) (fVar 0)))) (fNot (fTest (fCh (fun i j => decide (i ≤ j)) (fun i j => decide (i ≤ j)) (fC (.dat (.int (1)))) (fB (g1 gLen) (fCons (fVar 0) fNil)) (fC (.dat (.int (8)))))))) (sRet (fC (.dat (.bool false)))) sNil) (sRet (fB (g1 gAll) (fCons (fLc [1] (iSeq sK (fFrz 0)) (gN 1) fYes (f2 (gIn false) (fVar 1) (fC (.dat (.str "abcdefghijklmnopqrstuvwxyz"))))) fNil))))
def fb_law_is_row : FS := (sCons (sIf (fOr (fNot (fTest (f1 (fun d k => k (.val (.bool (isT "tuple" d)))) (fVar 1)))) (fTest (f2 gNe (fB (g1 gLen) (fCons (fVar 1) fNil)) (fB (g1 gLen) (fCons (fVar 0) fNil))))) (sRet (fC (.dat (.bool false)))) sNil) (sCons (sSet 2 (fLc [3, 4] (iZM (fCons (fFrz 0) (fCons (fFrz 1) fNil))) (gT 2 (gsCons (gN 3) (gsCons (gN 4) gsNil))) fYes (fIf (fTest (f2 gEq (f2 gIx (fVar 3) (fC (.dat (.int (1))))) (fC (.dat (.str "counter"))))) (fCall 1 F_wholeA (fCons (fVar 4) fNil)) (fCall 1 F_nameA (fCons (fVar 4) fNil))))) (sRet (fB (g1 gAll) (fCons (fVar 2) fNil)))))
def fb_law_some_fields : FS := (sCons (sPar 1 2 (fCons (fCall 2 F_draw (fCons (fVar 0) (fCons (fC (.dat (.int (5)))) fNil))) (fCons (fCall 2 F_draw (fCons (fVar 0) (fCons (fC (.dat (.int (5)))) fNil))) fNil))) (sRet (fCall 3 F_fields (fCons (fVar 0) (fCons (fVar 1) (fCons (fB (g2 gMax2) (fCons (fVar 2) (fCons (fB (g1 gInt) (fCons (f2 gEq (fVar 1) (fC (.dat (.int (0))))) fNil)) fNil))) fNil))))))
def fb_law_met (C : Addr) (D_InvalidVersions : Addr) : FS := (sCons (sSet 2 (fDisp .newl (fCons (fC (.dat (.str "other"))) fNil))) (sCons (sTryAs 3 D_InvalidVersions (sSet 2 (fDisp .newl (fCons (fC (.dat (.str "told"))) (fCons (fCall 2 (F_knownX C D_InvalidVersions) (fCons (fVar 0) (fCons (fVar 1) fNil))) fNil)))) (fun a dd => (sCons (sSet 4 (fIsX 3 a D_InvalidVersions dd false)) (sSet 2 (fIf (fAnd (fTest (fIsX 3 a D_InvalidVersions dd true)) (fNot (fTest (fVar 4)))) (fDisp .newl (fCons (fC (.dat (.str "refused"))) (fCons (fXf 3 a D_InvalidVersions dd "index") fNil))) (fDisp .newl (fCons (fC (.dat (.str "other"))) fNil))))))) (sRet (fVar 2))))
end KA
set_option Elab.async false
set_option linter.all false
set_option maxRecDepth 100000
namespace Mg
open PySem PySem.Spec PyProof.Rows L2 Evl Kc Kz Kx Tr
theorem word_parts {z : Str} (h : word z) : 1 ≤ z.length ∧ z.length ≤ 8 ∧ ∀ c ∈ z.cps.toList, c ∈ abc.cps.toList := by
  have h : (decide (1 ≤ (z.length : Int)) && (decide ((z.length : Int) ≤ 8) && z.cps.toList.all fun c => decide (c ∈ abc.cps.toList))) = true := h
  simp only [Bool.and_eq_true, decide_eq_true_eq, List.all_eq_true] at h
  exact ⟨by omega, by omega, h.2.2⟩
theorem abc_small : ∀ c ∈ abc.cps.toList, c < 0x110000 := by decide
theorem word_lay {z : Str} (h : word z) : PyData.canLay0 (.str z) = true := by
  simp only [PyData.canLay0, PyData.strOk]
  rw [Array.all_eq_true']
  intro c hc
  have := abc_small c ((word_parts h).2.2 c (Array.mem_def.mp hc))
  simpa using this
theorem sh_str {z : Str} (h : word z) : SeqAt.shaped (.str z) = true := by
  show (PyData.canLay0 _ && _) = true
  rw [word_lay h]
  rfl
theorem sh_int (i : Int) : SeqAt.shaped (.int i) = true := by
  show (PyData.canLay0 (.int i) && decide (PyData.depth (.int i) ≤ 64)) = true
  simp [PyData.canLay0, PyData.depth]
theorem eqS (a b : Str) : eqD (.str a) (.str b) = decide (a = b) := by
  show PyData.eqv (.str a) (.str b) = _
  simp only [PyData.eqv]
  by_cases h : a = b
  · subst h; simp
  · rw [decide_eq_false h]; exact beq_eq_false_iff_ne.mpr h
theorem eqI (a b : Int) : eqD (.int a) (.int b) = decide (a = b) := by
  show PyData.eqv (.int a) (.int b) = _
  simp only [PyData.eqv]
  by_cases h : a = b
  · subst h; simp
  · rw [decide_eq_false h]; exact beq_eq_false_iff_ne.mpr h
theorem val_lay {n : Nat} {k : Str} {d : D} (h : ValOk n k d) : d.canLay0 = true ∧ d.depth = 0 ∧ tupD d = true ∧ flatD d = true := by
  cases d <;> first
    | exact h.elim
    | exact ⟨word_lay h.2, by simp [PyData.depth], by simp [tupD], rfl⟩
    | exact ⟨by simp [PyData.canLay0], by simp [PyData.depth], by simp [tupD], rfl⟩
theorem val_show {n : Nat} {k : Str} {d : D} (hn : n ≤ 1900) (h : ValOk n k d) : d.showable = true ∧ d.hasDict = false ∧ wt d ≤ 1922 := by
  cases d <;> first
    | exact h.elim
    | skip
  · refine ⟨?_, by simp [PyData.hasDict], by simp [wt]⟩
    rename_i i
    simp only [decide_eq_true_eq, PyData.showable]
    by_cases z : i.natAbs = 0
    · rw [z]; decide
    · exact Nat.lt_of_lt_of_le ((Nat.log2_lt z).mpr h.2) (by omega)
  · refine ⟨by simp [PyData.showable], by simp [PyData.hasDict], ?_⟩
    have := (word_parts h.2).2.1
    simp only [wt]
    omega
theorem ver_lay {n : Nat} : ∀ {rows : List Row} {ds : List D}, VerOk n rows ds → PyData.canLayAll0 ds = true ∧ PyData.depthAll ds = 0 ∧ tupDs ds = true
  | _, _, .nil => ⟨by simp [PyData.canLayAll0], by simp [PyData.depthAll], by simp [tupDs]⟩
  | _, _, .cons h t => by
    obtain ⟨a, b, c⟩ := ver_lay t
    obtain ⟨a', b', c', _⟩ := val_lay h
    exact ⟨by simp only [PyData.canLayAll0, a, a', Bool.and_self], by simp only [PyData.depthAll, b, b', Nat.max_self], by simp only [tupDs, c, c', Bool.and_self]⟩
theorem ver_show {n : Nat} (hn : n ≤ 1900) : ∀ {rows : List Row} {ds : List D}, VerOk n rows ds → PyData.showableAll ds = true ∧ PyData.hasDictAll ds = false ∧ wts ds ≤ rows.length * 1924
  | _, _, .nil => ⟨by simp [PyData.showableAll], by simp [PyData.hasDictAll], by simp [wts]⟩
  | _, _, .cons h t => by
    obtain ⟨a, b, c⟩ := ver_show hn t
    obtain ⟨a', b', c'⟩ := val_show hn h
    refine ⟨by simp only [PyData.showableAll, a, a', Bool.and_self], by simp only [PyData.hasDictAll, b, b', Bool.or_self], ?_⟩
    simp only [wts, List.length_cons]
    omega
theorem ver_sh {n : Nat} {rows : List Row} {ds : List D} (h : VerOk n rows ds) : SeqAt.shaped (.tuple ds) = true := by
  obtain ⟨a, b, _⟩ := ver_lay h
  show (PyData.canLay0 _ && decide (PyData.depth _ ≤ 64)) = true
  simp only [PyData.canLay0, PyData.depth, a, b]
  rfl
theorem ver_tup {n : Nat} {rows : List Row} {ds : List D} (h : VerOk n rows ds) : tupD (.tuple ds) = true := by
  simp only [tupD]
  exact (ver_lay h).2.2
/-- repr of a version -/
theorem repr_ver {n : Nat} {rows : List Row} {ds : List D} {k : Out → Prop} (hn : n ≤ 1900) (hr : rows.length ≤ 20) (h : VerOk n rows ds) (hk : k (.val (.str (PyData.shown (.tuple ds))))) : gRepr (.tuple ds) k := by
  obtain ⟨a, b, _⟩ := ver_lay h
  obtain ⟨c, d, e⟩ := ver_show hn h
  have cl : PyData.canLay0 (.tuple ds) = true := by simp only [PyData.canLay0, a]
  have sb : PyData.showable (.tuple ds) = true := by simp only [PyData.showable, c]
  refine ⟨⟨⟨cl, ds, .inr rfl⟩, sb, by simp only [PyData.hasDict, d], by simp only [PyData.depth, b]; decide, ?_⟩, hk⟩
  have := shown_le (.tuple ds) cl sb
  simp only [wt] at this
  refine Nat.le_trans this (Nat.le_trans (m := 100000) (by omega) (by decide))
theorem ifS {a b : Str} {P Q : Prop} (h1 : a = b → P) (h2 : a ≠ b → Q) : if eqD (.str a) (.str b) = true then P else Q := by
  rw [eqS]
  by_cases h : a = b
  · rw [decide_eq_true h]; exact h1 h
  · rw [decide_eq_false h]; exact h2 h
theorem ifI {a b : Int} {P Q : Prop} (h1 : a = b → P) (h2 : a ≠ b → Q) : if eqD (.int a) (.int b) = true then P else Q := by
  rw [eqI]
  by_cases h : a = b
  · rw [decide_eq_true h]; exact h1 h
  · rw [decide_eq_false h]; exact h2 h
theorem ifNI {a b : Int} {P Q : Prop} (h1 : a ≠ b → P) (h2 : a = b → Q) : if (!eqD (.int a) (.int b)) = true then P else Q := by
  rw [eqI]
  by_cases h : a = b
  · rw [decide_eq_true h]; exact h2 h
  · rw [decide_eq_false h]; exact h1 h
theorem sz {α : Type} {l : List α} (h : l.length ≤ 1000) : l.length ≤ sizeLine := Nat.le_of_lt (small1000 h)
theorem three_sh {k : Str} (h : three k) : SeqAt.shaped (.str k) = true := by
  rcases h with rfl | rfl | rfl <;> decide +kernel
theorem val_three {n : Nat} {k : Str} {d : D} (t : three k) (h : ValOk n k d) : (k = "counter" ∧ ∃ i, d = .int i) ∨ (k ≠ "counter" ∧ ∃ z, d = .str z ∧ word z) := by
  cases d <;> first
    | exact h.elim
    | exact .inl ⟨h.1, _, rfl⟩
    | exact .inr ⟨h.1, _, rfl, h.2⟩
theorem sh_cnt : SeqAt.shaped (.str "counter") = true := by decide +kernel
theorem ifs {b : Bool} {P Q : Prop} (h1 : b = true → P) (h2 : b = false → Q) : if b = true then P else Q := by
  cases b with
  | true => exact h1 rfl
  | false => exact h2 rfl
def Cl (c : Option AV) : Prop := ∀ b, c = some b → b.isOwn = false
theorem Cl.no : Cl none := nofun
theorem Cl.dat {d : D} : Cl (some (.dat d)) := fun b e => by cases e; rfl
theorem Cl.free {ρ : S} {i : Nat} {c : Option AV} (h : Cl c) (e : ρ[i]? = some c) : Free ρ i := fun b hb => by
  rw [e] at hb
  have := h b (Option.some.inj hb)
  cases b <;> first | rfl | cases this
/-- a loop's name is set -/
theorem pd {ρ : S} {i : Nat} {d : D} {k : S → Prop} {c : Option AV} (e : ρ[i]? = some c) (h : Cl c) (hk : k (ρ.set i (some (.dat d)))) : gN i d ρ k := put_dat (h.free e) hk
theorem nilK {ρ : S} {k : S → Prop} (h : k ρ) : gsNil [] ρ k := h
theorem conK {g : FG} {gs : List D → S → (S → Prop) → Prop} {d : D} {ds : List D} {ρ : S} {k : S → Prop} (h : g d ρ fun ρ1 => gs ds ρ1 k) : gsCons g gs (d :: ds) ρ k := h
/-- a name is set -/
theorem pk {ρ : S} {i : Nat} {a : AV} {k : S → Prop} {c : Option AV} (e : ρ[i]? = some c) (h : Cl c) (np : a.isPar = false) (na : ∀ j, a ≠ .at j) (hk : k (ρ.set i (some a))) : putK i a ρ k := put_mk (h.free e) np na hk
theorem pkd {ρ : S} {i : Nat} {d : D} {k : S → Prop} {c : Option AV} (e : ρ[i]? = some c) (h : Cl c) (hk : k (ρ.set i (some (.dat d)))) : putK i (.dat d) ρ k := pk e h rfl (fun _ => nofun) hk
end Mg
set_option Elab.async false
set_option linter.all false
set_option maxRecDepth 100000
namespace K23
open PySem PySem.Spec PyProof.Rows L2 Evl Kc Kz Kx Tr Mg
abbrev Ok (k : AV → Prop) : EndsT := { nx := fun _ => k (.dat .none), rt := fun a ρ => rtK a ρ k }
theorem imp_slen (C : Addr) : ∀ as k x, as.length = 1 → F_slen C as k x → fb_slen C (start0 1 as) (Ok k) fun c _ => x c := by
  rintro _ k x _ ⟨ds, rfl, hk⟩
  exact ⟨rfl, _, rfl, hk⟩
theorem imp_sflds (C : Addr) : ∀ as k x, as.length = 1 → F_sflds C as k x → fb_sflds C (start0 1 as) (Ok k) fun c _ => x c := by
  rintro _ k x _ ⟨ds, rfl, hk⟩
  exact ⟨rfl, _, rfl, hk⟩
theorem zip_get {xs ys : List D} {i : Nat} {d : D} (h : (zipD xs ys)[i]? = some d) : ∃ a b, xs[i]? = some a ∧ ys[i]? = some b ∧ d = .tuple [a, b] := by
  induction xs generalizing ys i with
  | nil => cases ys <;> cases i <;> cases h
  | cons a xs ih =>
    cases ys with
    | nil => cases i <;> cases h
    | cons b ys =>
      cases i with
      | zero => cases Option.some.inj h; exact ⟨a, b, rfl, rfl, rfl⟩
      | succ i => exact ih h
theorem row_get {rows : List Mg.Row} {i : Nat} {a : D} (h : (rows.map rowD)[i]? = some a) : ∃ r, rows[i]? = some r ∧ a = rowD r := by
  rw [List.getElem?_map] at h
  obtain ⟨r, h1, h2⟩ := Option.map_eq_some_iff.mp h
  exact ⟨r, h1, h2.symm⟩
end K23
set_option Elab.async false
set_option linter.all false
set_option maxRecDepth 100000
namespace K23
open PySem PySem.Spec PyProof.Rows L2 Evl Kc Kz Kx Tr Mg
theorem enum_get : ∀ {xs : List D} {m i : Nat} {d : D}, (enumD m xs)[i]? = some d → ∃ a, xs[i]? = some a ∧ d = .tuple [.int ((m + i : Nat) : Int), a] := by
  intro xs
  induction xs with
  | nil => intro m i d h; cases i <;> cases h
  | cons a xs ih =>
    intro m i d h
    cases i with
    | zero => cases Option.some.inj h; exact ⟨a, rfl, rfl⟩
    | succ i =>
      obtain ⟨b, h1, h2⟩ := ih (m := m + 1) (i := i) h
      exact ⟨b, h1, by rw [h2]; congr 3; omega⟩
theorem imp_field : ∀ as k x, as.length = 1 → F_field as k x → fb_is_field (start0 3 as) (Ok k) fun c _ => x c := by
  rintro _ k x _ ⟨r, rfl, hw, ht, hk⟩
  refine ⟨⟨sh_int _, sh_int _⟩, ?_⟩
  refine ⟨rfl, Nat.zero_le 1, rfl, r.1, rfl, hw, .inl rfl, ?_⟩
  refine ⟨rfl, ?_⟩
  have : inD (.str r.2) [.str "mine", .str "theirs", .str "counter"] = true := by
    rcases ht with e | e | e <;> rw [e] <;> decide +kernel
  show k (.dat (.bool (false ^^ _)))
  rw [this]
  exact hk
end K23
set_option Elab.async false
set_option linter.all false
set_option maxRecDepth 100000
namespace K23
open PySem PySem.Spec PyProof.Rows L2 Evl Kc Kz Kx Tr Mg
end K23
set_option Elab.async false
set_option linter.all false
set_option maxRecDepth 100000
namespace Mg
open PySem PySem.Spec PyProof.Rows L2 Kx Kz Kc TL
theorem nodup_le {α : Type} [DecidableEq α] : ∀ (xs ys : List α), xs.Nodup → (∀ x ∈ xs, x ∈ ys) → xs.length ≤ ys.length
  | [], ys, _, _ => Nat.zero_le ys.length
  | x :: xs, ys, nd, sub => by
    have hx : x ∈ ys := sub x List.mem_cons_self
    have nd' := List.nodup_cons.mp nd
    have ih := nodup_le xs (ys.erase x) nd'.2 fun y hy => (List.mem_erase_of_ne (fun e => nd'.1 (by rw [← e]; exact hy))).mpr (sub y (List.mem_cons_of_mem _ hy))
    have := List.length_erase_of_mem hx
    have pos : 0 < ys.length := List.length_pos_of_mem hx
    rw [List.length_cons]
    omega
/-- some letter is not taken -/
theorem letter_free (ws : List Str) (h : ws.length ≤ 25) : (abc.cps.toList.filter fun c => !decide ((⟨#[c]⟩ : Str) ∈ ws)) ≠ [] := fun e => by
  have all : ∀ c ∈ abc.cps.toList, (⟨#[c]⟩ : Str) ∈ ws := fun c hc => by
    refine Classical.byContradiction fun no => ?_
    have : c ∈ (abc.cps.toList.filter fun c => !decide ((⟨#[c]⟩ : Str) ∈ ws)) := List.mem_filter.mpr ⟨hc, by rw [decide_eq_false no]; rfl⟩
    rw [e] at this
    cases this
  have nd : (abc.cps.toList.map fun c => (⟨#[c]⟩ : Str)).Nodup := by decide +kernel
  have le := nodup_le _ ws nd fun z hz => by
    obtain ⟨c, hc, rfl⟩ := List.mem_map.mp hz
    exact all c hc
  rw [List.length_map] at le
  have : abc.cps.toList.length = 26 := by decide +kernel
  omega
theorem mem_joinL : ∀ (ps : List (List Nat)) (c : Nat), c ∈ joinL [] ps → ∃ q ∈ ps, c ∈ q
  | [], c, h => by cases h
  | [p], c, h => ⟨p, List.mem_cons_self, h⟩
  | p :: r :: rs, c, h => by
    have h' : c ∈ p ++ ([] ++ joinL [] (r :: rs)) := h
    rw [List.nil_append] at h'
    rcases List.mem_append.mp h' with z | z
    · exact ⟨p, List.mem_cons_self, z⟩
    · obtain ⟨q, hq, hc⟩ := mem_joinL (r :: rs) c z
      exact ⟨q, List.mem_cons_of_mem _ hq, hc⟩
/-- letters joined are a word -/
theorem word_join (ys : List Str) (h : ∀ y ∈ ys, ∃ c ∈ abc.cps.toList, y = ⟨#[c]⟩) (h1 : 1 ≤ ys.length) (h8 : ys.length ≤ 8) : wordB (.str (Txt.join "" ys)) = true := by
  have one : ∀ y ∈ ys, y.length = 1 := fun y hy => by
    obtain ⟨c, _, rfl⟩ := h y hy
    rfl
  have ln : (Txt.join "" ys).length = ys.length := by rw [join_len, sum_ones ys one]
  have e : Txt.join "" ys = Str.join "" ys := by
    unfold Txt.join
    rw [StrLaws.glued_eq_join]
  have all : ∀ c ∈ (Txt.join "" ys).cps.toList, c ∈ abc.cps.toList := fun c hc => by
    have hc' : c ∈ tl (Str.join "" ys) := by rw [← e]; exact hc
    rw [tl_join] at hc'
    obtain ⟨q, hq, hcq⟩ := mem_joinL _ c hc'
    obtain ⟨y, hy, rfl⟩ := List.mem_map.mp hq
    obtain ⟨d, hd, rfl⟩ := h y hy
    have : c = d := by simpa [tl] using hcq
    rw [this]
    exact hd
  simp only [wordB, Bool.and_eq_true, decide_eq_true_eq, List.all_eq_true]
  refine ⟨by omega, by omega, all⟩
theorem word_sign {c : Nat} (h : c ∈ abc.cps.toList) : wordB (.str ⟨#[c]⟩) = true := by
  simp only [wordB, Bool.and_eq_true, decide_eq_true_eq, List.all_eq_true]
  refine ⟨by show (1 : Int) ≤ ((1 : Nat) : Int); decide, by show ((1 : Nat) : Int) ≤ 8; decide, fun d hd => ?_⟩
  have : d = c := by simpa using hd
  rw [this]
  exact h
end Mg
set_option Elab.async false
set_option linter.all false
set_option maxRecDepth 100000
namespace K23
open PySem PySem.Spec PyProof.Rows L2 Evl Kc Kz Kx Tr Mg
theorem in_strs (z : Str) : ∀ ws : List Str, inD (.str z) (sts ws) = decide (z ∈ ws)
  | [] => rfl
  | w :: ws => by
    show (eqD (.str w) (.str z) || inD (.str z) (sts ws)) = _
    rw [eqS, in_strs z ws]
    by_cases h : w = z
    · subst h; simp
    · have h' : z ≠ w := fun e => h e.symm
      rw [decide_eq_false h, Bool.false_or]
      simp [List.mem_cons, h']
theorem flat_sts : ∀ ws : List Str, (sts ws).all flatD = true
  | [] => rfl
  | w :: ws => by
    show (true && (sts ws).all flatD) = true
    rw [flat_sts ws]
    rfl
theorem strs_of {k : List Str → Prop} : ∀ {ws : List Str}, k ws → strsK (sts ws) k := by
  intro ws
  induction ws generalizing k with
  | nil => exact id
  | cons w ws ih => intro h; exact ih (k := fun ns => k (w :: ns)) h
theorem tup_sts : ∀ ws : List Str, tupDs (sts ws) = true
  | [] => by simp [tupDs]
  | w :: ws => by simp only [List.map_cons, tupDs, tupD, tup_sts ws, Bool.and_self]
theorem imp_words : ∀ as k x, as.length = 2 → F_words as k x → fb_law_words (start0 4 as) (Ok k) fun c _ => x c := by
  rintro _ k x _ ⟨n, rfl, hn, hk⟩
  refine ⟨by decide, ⟨by omega, by omega⟩, ?_⟩
  refine forF_by (fun i ρ => ∃ (ws : List Str) (c : Option AV), ρ = [some (.pot true), some (.dat (.int n)), some (.own false (.list (sts ws))), c] ∧ Cl c ∧ ws.length = i ∧ ws.Nodup ∧ ∀ z ∈ ws, word z) (fun i d ρ hd hI C hC => ?_) (fun ρ hI => ?_) ⟨[], none, rfl, .no, rfl, List.nodup_nil, nofun⟩
  · obtain ⟨ws, c, rfl, hc, l, nd, wk⟩ := hI
    obtain ⟨hi, rfl⟩ := rngD_get hd
    have hi' : i < n := by omega
    refine pd rfl hc ?_
    refine ⟨Nat.le_refl 1, rfl, ws, rfl, by omega, fun z hz nz => ⟨.inr (by simp [flAV, tupD]), rfl, ?_, ?_⟩⟩
    · rw [List.length_map]
      exact small1000 (by omega)
    · refine hC _ ⟨ws ++ [z], some (.dat (.int (0 + (i : Nat)))), ?_, .dat, by rw [List.length_append, l]; rfl, ?_, ?_⟩
      · show _ = [some (.pot true), some (.dat (.int n)), some (AV.own false (.list (List.map PyData.str (ws ++ [z])))), some (.dat (.int (0 + (i : Nat))))]
        rw [List.map_append]
        rfl
      · rw [List.nodup_append]
        exact ⟨nd, List.nodup_cons.mpr ⟨nofun, List.nodup_nil⟩, fun a ha b hb e => nz (by rw [← List.mem_singleton.mp hb, ← e]; exact ha)⟩
      · intro y hy
        rcases List.mem_append.mp hy with h | h
        · exact wk y h
        · rw [List.mem_singleton.mp h]
          exact hz
  · obtain ⟨ws, c, rfl, hc, l, nd, wk⟩ := hI
    rw [rngD_len] at l
    exact hk ws (by omega) nd wk
theorem imp_word : ∀ as k x, as.length = 2 → F_word as k x → fb_law_word (start0 6 as) (Ok k) fun c _ => x c := by
  rintro _ k x _ ⟨ts, rfl, hn, hk⟩
  refine ⟨⟨_, rfl⟩, sz (by simp), Nat.le_refl 1, rfl, 4, rfl, by decide, by decide, fun j h0 h1 => ⟨.inl rfl, ?_⟩⟩
  obtain ⟨m, hm, m1, m8⟩ : ∃ m : Nat, atI [PyData.int 1, .int 1, .int 2, .int 8] j = some (.int m) ∧ 1 ≤ m ∧ m ≤ 8 := by
    rcases (show j = 0 ∨ j = 1 ∨ j = 2 ∨ j = 3 by omega) with rfl | rfl | rfl | rfl
    · exact ⟨1, rfl, by decide, by decide⟩
    · exact ⟨1, rfl, by decide, by decide⟩
    · exact ⟨2, rfl, by decide, by decide⟩
    · exact ⟨8, rfl, by decide, by decide⟩
  refine ⟨_, hm, ⟨by omega, by omega⟩, rfl, ?_⟩
  refine lcF_by (fun i acc ρ => ρ = start0 6 [.pot true, .dat (.list (sts ts)), .dat (.str abc)] ∧ ∃ ys : List Str, acc = sts ys ∧ ys.length = i ∧ ∀ y ∈ ys, ∃ c ∈ abc.cps.toList, y = ⟨#[c]⟩) (fun i d acc ρ hd hI C' hC => ?_) (fun acc ρ hI => ?_) ⟨rfl, [], rfl, rfl, nofun⟩
  · obtain ⟨rfl, ys, rfl, hl, hy⟩ := hI
    obtain ⟨hi, rfl⟩ := rngD_get hd
    refine ⟨Nat.le_refl 1, rfl, 26, rfl, by decide, by decide, fun j h0 h1 => ⟨.inl rfl, by decide, ?_⟩⟩
    obtain ⟨q, c, rfl, hc, e⟩ := atI_get (xs := abc.cps.toList) h0 h1
    refine ⟨c, e, ?_, hC _ _ ⟨rfl, ys ++ [⟨#[c]⟩], ?_, ?_, ?_⟩⟩
    · rw [List.length_map]
      exact small1000 (by omega)
    · show _ = List.map _ _
      rw [List.map_append]
      rfl
    · rw [List.length_append, hl]; rfl
    · intro y h
      obtain h | h := List.mem_append.mp h
      · exact hy y h
      · exact ⟨c, List.mem_of_getElem? hc, List.mem_singleton.mp h⟩
  · obtain ⟨rfl, ys, rfl, hl, hy⟩ := hI
    rw [rngD_len] at hl
    refine strs_of ?_
    have one : ∀ y ∈ ys, y.length = 1 := fun y h => by obtain ⟨c, _, rfl⟩ := hy y h; rfl
    have jw := word_join ys hy (by omega) (by omega)
    refine ⟨?_, ?_⟩
    · rw [sum_ones ys one]
      show _ + _ * 0 ≤ _
      omega
    generalize Txt.join "" ys = z at jw
    refine ⟨.inl ?_, ?_⟩
    · show (true && (sts ts).all flatD) = true
      rw [flat_sts]
      rfl
    rw [in_strs]
    refine ifs (fun e => ?_) fun e => ?_
    · refine ⟨rfl, ?_⟩
      refine lcF_by (fun i acc ρ => ρ = start0 6 [.pot true, .dat (.list (sts ts)), .dat (.str abc), .dat (.str z)] ∧ acc = ((abc.cps.toList.take i).filter fun c => !decide ((⟨#[c]⟩ : Str) ∈ ts)).map fun c => .str ⟨#[c]⟩) (fun i d acc ρ hd hI C' hC => ?_) (fun acc ρ hI => ?_) ⟨rfl, rfl⟩
      · obtain ⟨rfl, rfl⟩ := hI
        rw [List.getElem?_map] at hd
        obtain ⟨c, hc, rfl⟩ := Option.map_eq_some_iff.mp hd
        have tk : abc.cps.toList.take (i + 1) = abc.cps.toList.take i ++ [c] := by rw [List.take_add_one, hc]; rfl
        refine ⟨.inl ?_, ?_⟩
        · show (true && (sts ts).all flatD) = true
          rw [flat_sts]
          rfl
        rw [in_strs]
        refine ifs (fun e => ⟨?_, hC _ _ ⟨rfl, ?_⟩⟩) fun e => hC _ _ ⟨rfl, ?_⟩
        · rw [List.length_map]
          refine small1000 (Nat.le_trans (List.length_filter_le _ _) ?_)
          exact Nat.le_trans (List.length_take_le' _ _) (by decide)
        · rw [tk, List.filter_append, List.map_append, List.filter_cons_of_pos (by simpa using e)]
          rfl
        · rw [tk, List.filter_append, List.map_append, List.filter_cons_of_neg (by simpa using e)]
          exact (List.append_nil _).symm
      · obtain ⟨rfl, rfl⟩ := hI
        have fr := letter_free ts hn
        have full : (List.map (fun c => (PyData.str ⟨#[c]⟩ : D)) abc.cps.toList).length = abc.cps.toList.length := List.length_map ..
        have ef : abc.cps.toList.take ((List.map (fun c => (PyData.str ⟨#[c]⟩ : D)) abc.cps.toList).length) = abc.cps.toList := by rw [full, List.take_length]
        rw [ef]
        cases hf : (abc.cps.toList.filter fun c => !decide ((⟨#[c]⟩ : Str) ∈ ts)) with
        | nil => exact absurd hf fr
        | cons c cs =>
          have mc : c ∈ abc.cps.toList.filter fun c => !decide ((⟨#[c]⟩ : Str) ∈ ts) := by rw [hf]; exact List.mem_cons_self
          rw [List.mem_filter] at mc
          obtain ⟨q, v, e0, hv, e2⟩ := atI_get (xs := (c :: cs).map fun c => (PyData.str ⟨#[c]⟩ : D)) (i := 0) (by decide) (by rw [List.length_map, List.length_cons]; omega)
          have : q = 0 := by omega
          subst this
          cases Option.some.inj hv
          exact ⟨_, e2, hk _ (word_sign mc.1) (by simpa using mc.2)⟩
    · exact hk z jw (by simpa using e)
theorem erase_perm {α : Type} : ∀ {l : List α} {m : Nat} (h : m < l.length), (l[m] :: l.eraseIdx m).Perm l
  | _ :: _, 0, _ => .refl _
  | a :: l, m + 1, h => .trans (.swap a _ _) (.cons a (erase_perm (l := l) (m := m) (Nat.lt_of_succ_lt_succ h)))
theorem imp_mixed : ∀ as k x, as.length = 2 → F_mixed as k x → fb_law_mixed (start0 4 as) (Ok k) fun c _ => x c := by
  rintro _ k x _ ⟨ds, rfl, hn, hk⟩
  refine ⟨⟨by omega, by omega⟩, rfl, ?_⟩
  refine lcF_by (fun i acc ρ => ∃ left : List D, ρ = [some (.pot true), some (.dat (.list ds)), some (.own false (.list left)), none] ∧ (acc ++ left).Perm ds ∧ acc.length = i) (fun i d acc ρ hd hI C' hC => ?_) (fun acc ρ hI => ?_) ⟨ds, rfl, .refl _, rfl⟩
  · obtain ⟨left, rfl, pm, hl⟩ := hI
    obtain ⟨hi, rfl⟩ := rngD_get hd
    have ln := pm.length_eq
    rw [List.length_append] at ln
    have lp : 0 < left.length := by omega
    refine ⟨Nat.le_refl 1, rfl, (left.length : Int), rfl, by omega, by omega, fun j h0 h1 => ⟨.inl rfl, rfl, ?_⟩⟩
    obtain ⟨m, rfl⟩ : ∃ m : Nat, j = m := ⟨j.toNat, by omega⟩
    have hm : m < left.length := by omega
    refine ⟨m, left[m], rfl, by omega, List.getElem?_eq_getElem hm, ?_, hC _ _ ⟨left.eraseIdx m, rfl, ?_, ?_⟩⟩
    · exact small1000 (by omega)
    · refine List.Perm.trans ?_ pm
      rw [List.append_assoc]
      exact List.Perm.append_left _ (erase_perm hm)
    · rw [List.length_append, hl]; rfl
  · obtain ⟨left, rfl, pm, hl⟩ := hI
    rw [rngD_len] at hl
    have ln := pm.length_eq
    rw [List.length_append] at ln
    have : left = [] := List.eq_nil_of_length_eq_zero (by omega)
    subst this
    rw [List.append_nil] at pm
    exact hk _ pm
end K23
set_option Elab.async false
set_option linter.all false
set_option maxRecDepth 100000
namespace K23
open PySem PySem.Spec PyProof.Rows L2 Evl Kc Kz Kx Tr Mg
theorem imp_step : ∀ as k x, as.length = 2 → F_step as k x → fb_law_step (start0 3 as) (Ok k) fun c _ => x c := by
  rintro _ k x _ ⟨far, rfl, hk⟩
  refine ⟨sz (by simp), Nat.le_refl 1, rfl, 6, rfl, by decide, by decide, fun j h0 h1 => ⟨.inl rfl, ?_⟩⟩
  obtain ⟨m, hm, m6⟩ : ∃ m : Nat, atI [PyData.int 0, .int 1, .int 2, .int 3, .int 4, .int 6] j = some (.int m) ∧ m ≤ 6 := by
    rcases (show j = 0 ∨ j = 1 ∨ j = 2 ∨ j = 3 ∨ j = 4 ∨ j = 5 by omega) with rfl | rfl | rfl | rfl | rfl | rfl
    · exact ⟨0, rfl, by decide⟩
    · exact ⟨1, rfl, by decide⟩
    · exact ⟨2, rfl, by decide⟩
    · exact ⟨3, rfl, by decide⟩
    · exact ⟨4, rfl, by decide⟩
    · exact ⟨6, rfl, by decide⟩
  have sm : k (.dat (.int m)) := hk m (Nat.lt_of_le_of_lt m6 (by decide))
  refine ⟨_, hm, ⟨sh_int _, sh_int _⟩, ifI (fun _ => sm) fun _ => ⟨Nat.le_refl 1, rfl, 2, rfl, by decide, by decide, fun j h0 h1 => ⟨.inl rfl, ⟨sh_int _, sh_int _⟩, ifI (fun _ => sm) fun _ => ?_⟩⟩⟩
  refine ⟨⟨by decide, by decide, by decide⟩, .inl (.inl ⟨by omega, by omega⟩), ⟨by decide, by decide, by decide⟩, Nat.le_refl 1, rfl, 10 ^ 9, rfl, by decide, by decide, fun d d0 d1 => ⟨.inl rfl, ?_⟩⟩
  have d1 : d < 1000000000 := d1
  have e : (m : Int) * 10 ^ 25 + d = ((m * 10 ^ 25 + d.toNat : Nat) : Int) := by omega
  show k (.dat (.int ((m : Int) * 10 ^ 25 + d)))
  rw [e]
  exact hk _ (by omega)
theorem flat_rep {α : Type} (x : α) : ∀ n : Nat, (List.replicate n [x]).flatten = List.replicate n x
  | 0 => rfl
  | n + 1 => by rw [List.replicate_succ, List.flatten_cons, flat_rep x n]; rfl
theorem perm_sts {es : List D} {ks : List Str} (h : es.Perm (sts ks)) : ∃ ks', es = sts ks' ∧ ks'.Perm ks := by
  let g : D → Str := fun d => match d with | .str z => z | _ => ""
  have e1 : (sts ks).map g = ks := by rw [List.map_map]; exact List.map_id _
  refine ⟨es.map g, ?_, by rw [← e1]; exact h.map g⟩
  show es = List.map PyData.str (es.map g)
  rw [List.map_map]
  have : ∀ d ∈ es, (PyData.str ∘ g) d = d := fun d hd => by
    obtain ⟨z, _, rfl⟩ := List.mem_map.mp (h.mem_iff.mp hd)
    rfl
  exact ((List.map_congr_left this).trans (List.map_id' es)).symm
theorem zip_sts (ws ks : List Str) : zipD (sts ws) (sts ks) = (ws.zip ks).map rowD := by
  unfold zipD
  induction ws generalizing ks with
  | nil => rfl
  | cons w ws ih =>
    cases ks with
    | nil => rfl
    | cons k ks => exact congrArg (rowD (w, k) :: ·) (ih ks)
theorem snd_count {ws ks : List Str} (p : Str → Bool) (h : ks.length ≤ ws.length) : ((ws.zip ks).filter fun r => p r.2).length = (ks.filter p).length := by
  have e := List.map_snd_zip (l₁ := ws) (l₂ := ks) h
  have : ks.filter p = ((ws.zip ks).filter (p ∘ Prod.snd)).map Prod.snd := by rw [← List.filter_map, e]
  rw [this, List.length_map]
  rfl
theorem no_c {ks : List Str} (h : ∀ z ∈ ks, z = "mine" ∨ z = "theirs") : ks.filter (fun z => isC z) = [] := by
  rw [List.filter_eq_nil_iff]
  intro z hz
  rcases h z hz with rfl | rfl <;> decide
theorem yes_l {ks : List Str} (h : ∀ z ∈ ks, z = "mine" ∨ z = "theirs") : ks.filter (fun z => !isC z) = ks := by
  rw [List.filter_eq_self]
  intro z hz
  rcases h z hz with rfl | rfl <;> decide
theorem all_c (n : Nat) : (List.replicate n ("counter" : Str)).filter (fun z => isC z) = List.replicate n ("counter" : Str) := by
  rw [List.filter_eq_self]
  intro z hz
  rw [(List.mem_replicate.mp hz).2]
  decide
theorem no_l (n : Nat) : (List.replicate n ("counter" : Str)).filter (fun z => !isC z) = [] := by
  rw [List.filter_eq_nil_iff]
  intro z hz
  rw [(List.mem_replicate.mp hz).2]
  decide
theorem imp_fields : ∀ as k x, as.length = 3 → F_fields as k x → fb_law_fields (start0 5 as) (Ok k) fun c _ => x c := by
  rintro _ k x _ ⟨a, b, rfl, hab, hk⟩
  refine ⟨⟨by omega, by omega⟩, rfl, ?_⟩
  refine lcF_by (fun i acc ρ => ρ = start0 5 [.pot true, .dat (.int a), .dat (.int b)] ∧ ∃ ks : List Str, acc = sts ks ∧ ks.length = i ∧ ∀ z ∈ ks, z = "mine" ∨ z = "theirs") (fun i d acc ρ hd hI C' hC => ?_) (fun acc ρ hI => ?_) ⟨rfl, [], rfl, rfl, nofun⟩
  · obtain ⟨rfl, ks, rfl, hl, hz⟩ := hI
    obtain ⟨hi, rfl⟩ := rngD_get hd
    refine ⟨sz (by simp), Nat.le_refl 1, rfl, 2, rfl, by decide, by decide, fun j h0 h1 => ⟨.inl rfl, ?_⟩⟩
    obtain ⟨z, e, hz'⟩ : ∃ z : Str, atI [PyData.str "mine", .str "theirs"] j = some (.str z) ∧ (z = "mine" ∨ z = "theirs") := by
      rcases (show j = 0 ∨ j = 1 by omega) with rfl | rfl
      · exact ⟨_, rfl, .inl rfl⟩
      · exact ⟨_, rfl, .inr rfl⟩
    refine ⟨_, e, ?_, hC _ _ ⟨rfl, ks ++ [z], ?_, ?_, ?_⟩⟩
    · rw [List.length_map]
      exact small1000 (by omega)
    · show _ = List.map _ _
      rw [List.map_append]
      rfl
    · rw [List.length_append, hl]; rfl
    · intro y h
      obtain h | h := List.mem_append.mp h
      · exact hz y h
      · rw [List.mem_singleton.mp h]
        exact hz'
  · obtain ⟨rfl, ks, rfl, hl, hz⟩ := hI
    rw [rngD_len] at hl
    have hl : ks.length = a := by omega
    refine ⟨sz (by simp), ⟨by omega, by omega, ?_⟩, ?_, ?_⟩
    · show 1 * (b : Int).toNat ≤ sizeLine
      exact Nat.le_of_lt (small1000 (by omega))
    · rw [List.length_map]
      show _ + ((List.replicate (b : Int).toNat [(PyData.str "counter" : D)]).flatten).length ≤ _
      rw [flat_rep, List.length_replicate]
      exact Nat.le_of_lt (small1000 (by omega))
    have ek : sts ks ++ (List.replicate (b : Int).toNat [(PyData.str "counter" : D)]).flatten = sts (ks ++ List.replicate b ("counter" : Str)) := by
      rw [flat_rep]
      show _ = List.map _ _
      rw [List.map_append, List.map_replicate]
      rfl
    have kl : (ks ++ List.replicate b ("counter" : Str)).length = a + b := by rw [List.length_append, List.length_replicate, hl]
    refine ⟨Nat.le_refl 1, rfl, a + b, rfl, hab, fun ws wl wn wk => ⟨.inl rfl, ?_⟩⟩
    refine ⟨Nat.le_refl 1, rfl, _, rfl, ?_, fun es pm => ⟨.inr ?_, ?_⟩⟩
    · rw [ek, List.length_map, kl]
      omega
    · obtain ⟨ks', rfl, _⟩ := perm_sts (ek ▸ pm)
      show tupDs _ = true
      exact tup_sts ks'
    · obtain ⟨ks', rfl, pm'⟩ := perm_sts (ek ▸ pm)
      have kl' : ks'.length = a + b := by rw [pm'.length_eq, kl]
      show k (.own false (.list (zipD (sts ws) (sts ks'))))
      rw [zip_sts]
      refine hk _ ⟨?_, fun r hr => ?_, fun r hr => ?_, ?_, ?_⟩
      · rw [List.map_fst_zip (by omega)]
        exact wn
      · exact wk _ (List.of_mem_zip hr).1
      · have m := pm'.mem_iff.mp (List.of_mem_zip hr).2
        rcases List.mem_append.mp m with m | m
        · rcases hz _ m with e | e
          · exact .inl e
          · exact .inr (.inl e)
        · exact .inr (.inr (List.mem_replicate.mp m).2)
      · rw [snd_count (fun z => isC z) (by omega), (pm'.filter _).length_eq, List.filter_append, no_c hz, List.nil_append, all_c, List.length_replicate]
      · rw [snd_count (fun z => !isC z) (by omega), (pm'.filter _).length_eq, List.filter_append, yes_l hz, no_l, List.append_nil, hl]
end K23
set_option Elab.async false
set_option linter.all false
set_option maxRecDepth 100000
namespace K23
open PySem PySem.Spec PyProof.Rows L2 Evl Kc Kz Kx Tr Mg
theorem plan_len {rows : List Mg.Row} {ps : List D} (h : PlanOk rows ps) : rows.length = ps.length := by
  induction h with
  | nil => rfl
  | snoc _ _ ih => rw [List.length_append, List.length_append, ih]; rfl
theorem plan_get {rows : List Mg.Row} {ps : List D} (h : PlanOk rows ps) : ∀ {i : Nat} {r : Mg.Row}, rows[i]? = some r → ∃ d, ps[i]? = some d ∧ PlanAt r.2 d := by
  induction h with
  | nil => intro i r e; cases i <;> cases e
  | @snoc rs ds r d h p ih =>
    intro i q e
    have l := plan_len h
    rw [List.getElem?_append] at e ⊢
    rw [← l]
    split at e
    · rename_i z
      rw [if_pos z]
      exact ih e
    · rename_i z
      rw [if_neg z]
      cases hi : i - rs.length with
      | zero => rw [hi] at e; cases Option.some.inj e; exact ⟨d, rfl, p⟩
      | succ m => rw [hi] at e; cases m <;> cases e
theorem take_succ {α : Type} {l : List α} {i : Nat} {a : α} (h : l[i]? = some a) : l.take (i + 1) = l.take i ++ [a] := by rw [List.take_add_one, h]; rfl
theorem imp_plan : ∀ as k x, as.length = 3 → F_plan as k x → fb_law_plan (start0 9 as) (Ok k) fun c _ => x c := by
  rintro _ k x _ ⟨rows, far, rfl, hr, ht, hk⟩
  refine ⟨Nat.le_refl 1, rfl, 4, rfl, by decide, by decide, fun s0 h0 h1 => ⟨.inl rfl, ?_⟩⟩
  refine ⟨Nat.le_refl 1, rfl, 2, rfl, by decide, by decide, fun s1 h2 h3 => ⟨.inl rfl, sz (by simp), sz (by simp), ?_⟩⟩
  have sizes : ∀ g : Nat, g < 3 → ∃ m : Nat, atI [PyData.int (1 + s0), .int (2 + s1), .int 2] g = some (.int m) ∧ 1 ≤ m ∧ m ≤ 8 := fun g hg => by
    rcases (show g = 0 ∨ g = 1 ∨ g = 2 by omega) with rfl | rfl | rfl
    · exact ⟨(1 + s0).toNat, by rw [atI_nat (by rfl)]; congr 2; omega, by omega, by omega⟩
    · exact ⟨(2 + s1).toNat, by rw [atI_nat (by rfl)]; congr 2; omega, by omega, by omega⟩
    · exact ⟨2, by rw [atI_nat (by rfl)]; rfl, by omega, by omega⟩
  refine forF_by (fun i ρ => ∃ (ps : List D) (c1 c2 c3 c4 : Option AV), ρ = [some (.pot true), some (.dat (flD rows)), some (.dat (.int far)), some (.dat (.list [.int (1 + s0), .int (2 + s1), .int 2])), some (.own false (.list ps)), c1, c2, c3, c4] ∧ Cl c1 ∧ Cl c2 ∧ Cl c3 ∧ Cl c4 ∧ PlanOk (rows.take i) ps) (fun i d ρ hd hI C' hC => ?_) (fun ρ hI => ?_) ⟨[], none, none, none, none, rfl, .no, .no, .no, .no, .nil⟩
  · obtain ⟨ps, c1, c2, c3, c4, rfl, k1, k2, k3, k4, pl⟩ := hI
    obtain ⟨r, hr1, rfl⟩ := row_get hd
    have tr := ht r (List.mem_of_getElem? hr1)
    have hlen : ps.length < sizeLine := by
      have := plan_len pl
      rw [List.length_take] at this
      exact small1000 (by omega)
    have fin : ∀ (c3 c4 : Option AV) (d : D), PlanAt r.2 d → Cl c3 → Cl c4 → C' [some (.pot true), some (.dat (flD rows)), some (.dat (.int far)), some (.dat (.list [.int (1 + s0), .int (2 + s1), .int 2])), some (.own false (.list (ps ++ [d]))), some (.dat (.str r.1)), some (.dat (.str r.2)), c3, c4] := fun c3 c4 d pa k3 k4 =>
      hC _ ⟨ps ++ [d], some (.dat (.str r.1)), some (.dat (.str r.2)), c3, c4, rfl, .dat, .dat, k3, k4, by rw [take_succ hr1]; exact .snoc pl pa⟩
    refine ⟨rfl, pd rfl k1 (conK (pd rfl k2 (nilK ?_)))⟩
    refine ⟨⟨three_sh tr, sh_cnt⟩, ifS (fun e => ?_) fun e => ?_⟩
    · refine ⟨Nat.le_refl 1, rfl, 41, rfl, by decide, by decide, fun a a0 a1 => ⟨.inl rfl, ?_⟩⟩
      refine ⟨Nat.le_refl 1, rfl, far, rfl, fun s hs => ⟨.inl rfl, sz (by simp), rfl, hlen, ?_⟩⟩
      exact fin c3 c4 _ (.inl ⟨e, a - 20, s, rfl, by omega, hs⟩) k3 k4
    · refine ⟨Nat.le_refl 1, rfl, 3, rfl, by decide, by decide, fun g g0 g1 => ⟨.inl rfl, pkd rfl k3 ?_⟩⟩
      obtain ⟨g, rfl⟩ : ∃ n : Nat, g = n := ⟨g.toNat, by omega⟩
      have tail : ∀ m : Nat, 1 ≤ m → m ≤ 8 → sExpr (fMut 4 mAppend (fCons (fDisp .newt (fCons (fFrz 7) (fCons (fCall 2 F_words (fCons (fVar 0) (fCons (fVar 8) fNil))) (fCons (f2 gEq (fCall 2 F_draw (fCons (fVar 0) (fCons (fC (.dat (.int (6)))) fNil))) (fC (.dat (.int (0))))) fNil)))) fNil)) [some (.pot true), some (.dat (flD rows)), some (.dat (.int far)), some (.dat (.list [.int (1 + s0), .int (2 + s1), .int 2])), some (.own false (.list ps)), some (.dat (.str r.1)), some (.dat (.str r.2)), some (.dat (.int g)), some (.dat (.int m))] { nx := C', rt := fun a ρ => rtK a ρ k } fun c _ => x c := fun m m1 m8 => by
        refine ⟨Nat.le_refl 1, rfl, m, rfl, by omega, fun ws wl wn wk => ⟨.inl rfl, ?_⟩⟩
        refine ⟨Nat.le_refl 1, rfl, 6, rfl, by decide, by decide, fun b b0 b1 => ⟨.inl rfl, ⟨sh_int _, sh_int _⟩, sz (by simp), rfl, hlen, ?_⟩⟩
        exact fin _ _ _ (.inr ⟨e, g, ws, _, rfl, by omega, by omega, by omega, wk⟩) .dat .dat
      refine ⟨Nat.le_refl 1, rfl, 5, rfl, by decide, by decide, fun q q0 q1 => ⟨.inl rfl, ?_⟩⟩
      refine ifs (fun _ => ?_) fun _ => ?_
      · obtain ⟨m, hm, m1, m8⟩ := sizes g (by omega)
        exact ⟨_, hm, pkd rfl k4 (tail m m1 m8)⟩
      · refine ⟨Nat.le_refl 1, rfl, 8, rfl, by decide, by decide, fun u u0 u1 => ⟨.inl rfl, ?_⟩⟩
        obtain ⟨n, rfl⟩ : ∃ n : Nat, u = n := ⟨u.toNat, by omega⟩
        have t := tail (1 + n) (by omega) (by omega)
        rw [show ((1 + n : Nat) : Int) = 1 + (n : Int) by omega] at t
        exact pkd rfl k4 t
  · obtain ⟨ps, c1, c2, c3, c4, rfl, _, _, _, _, pl⟩ := hI
    rw [List.length_map, List.take_length] at pl
    exact hk ps pl
/-- versions from the left -/
theorem ver_snoc {n : Nat} : ∀ {rs : List Mg.Row} {ds : List D} {r : Mg.Row} {d : D}, VerOk n rs ds → ValOk n r.2 d → VerOk n (rs ++ [r]) (ds ++ [d])
  | [], [], _, _, .nil, h => VerOk.cons h VerOk.nil
  | _, _, _, _, .cons a t, h => .cons a (ver_snoc t h)
theorem imp_row : ∀ as k x, as.length = 3 → F_row as k x → fb_law_row (start0 11 as) (Ok k) fun c _ => x c := by
  rintro _ k x _ ⟨rows, ps, rfl, hr, ht, pl, hk⟩
  refine ⟨Nat.le_refl 1, rfl, 4, rfl, by decide, by decide, fun s0 a0 a1 => ⟨.inl rfl, ?_⟩⟩
  refine ⟨Nat.le_refl 1, rfl, 4, rfl, by decide, by decide, fun s1 b0 b1 => ⟨.inl rfl, ?_⟩⟩
  refine ⟨Nat.le_refl 1, rfl, 4, rfl, by decide, by decide, fun s2 c0 c1 => ⟨.inl rfl, sz (by simp), sz (by simp), ?_⟩⟩
  have spots : ∀ g : Nat, g < 3 → ∃ m : Int, atI [PyData.int s0, .int s1, .int s2] g = some (.int m) ∧ 0 ≤ m := fun g hg => by
    rcases (show g = 0 ∨ g = 1 ∨ g = 2 by omega) with rfl | rfl | rfl
    · exact ⟨s0, by rw [atI_nat (by rfl)], by omega⟩
    · exact ⟨s1, by rw [atI_nat (by rfl)], by omega⟩
    · exact ⟨s2, by rw [atI_nat (by rfl)], by omega⟩
  refine forF_by (fun i ρ => ∃ (vs : List D) (c1 c2 c3 c4 c5 c6 : Option AV), ρ = [some (.pot true), some (.dat (flD rows)), some (.dat (.list ps)), some (.dat (.list [.int s0, .int s1, .int s2])), some (.own false (.list vs)), c1, c2, c3, c4, c5, c6] ∧ (Cl c1 ∧ Cl c2 ∧ Cl c3 ∧ Cl c4 ∧ Cl c5 ∧ Cl c6) ∧ VerOk 100 (rows.take i) vs) (fun i d ρ hd hI C' hC => ?_) (fun ρ hI => ?_) ⟨[], none, none, none, none, none, none, rfl, ⟨.no, .no, .no, .no, .no, .no⟩, .nil⟩
  · obtain ⟨vs, c1, c2, c3, c4, c5, c6, rfl, ⟨k1, k2, k3, k4, k5, k6⟩, vo⟩ := hI
    obtain ⟨a, ha, rfl⟩ := enum_get hd
    obtain ⟨r, hr1, rfl⟩ := row_get ha
    obtain ⟨p, hp, pa⟩ := plan_get pl hr1
    have tr := ht r (List.mem_of_getElem? hr1)
    have hlen : vs.length < sizeLine := by
      have := vo.len
      rw [List.length_take] at this
      exact small1000 (by omega)
    rw [Nat.zero_add]
    have fin : ∀ (c3 c4 c5 c6 : Option AV) (d : D), ValOk 100 r.2 d → Cl c3 → Cl c4 → Cl c5 → Cl c6 → C' [some (.pot true), some (.dat (flD rows)), some (.dat (.list ps)), some (.dat (.list [.int s0, .int s1, .int s2])), some (.own false (.list (vs ++ [d]))), some (.dat (.int (i : Nat))), some (.dat (rowD r)), c3, c4, c5, c6] := fun c3 c4 c5 c6 d pa k3 k4 k5 k6 =>
      hC _ ⟨vs ++ [d], _, _, c3, c4, c5, c6, rfl, ⟨.dat, .dat, k3, k4, k5, k6⟩, by rw [take_succ hr1]; exact ver_snoc vo pa⟩
    refine ⟨rfl, pd rfl k1 (conK (pd rfl k2 (nilK ?_)))⟩
    refine ⟨_, rfl, ⟨three_sh tr, sh_cnt⟩, ifS (fun e => ?_) fun e => ?_⟩
    · rcases pa with ⟨_, a, s, rfl, ha, hs⟩ | ⟨z, _⟩
      · refine ⟨_, atI_nat hp, _, rfl, _, atI_nat hp, _, rfl, Nat.le_refl 1, rfl, 7, rfl, by decide, by decide, fun j j0 j1 => ⟨.inl rfl, .inl (.inr ⟨by omega, by omega⟩), rfl, hlen, ?_⟩⟩
        refine fin _ _ _ _ _ ⟨e, ?_⟩ k3 k4 k5 k6
        have h1 : ((s : Int) * (j - 3)).natAbs ≤ s * 3 := by
          rw [Int.natAbs_mul]
          exact Nat.mul_le_mul (by omega) (by omega)
        have h2 : (a + (s : Int) * (j - 3)).natAbs ≤ a.natAbs + ((s : Int) * (j - 3)).natAbs := Int.natAbs_add_le _ _
        have : (2 : Nat) ^ 100 = 1024 * 2 ^ 90 := by decide
        omega
      · exact absurd e z
    · rcases pa with ⟨z, _⟩ | ⟨_, g, ws, b, rfl, hg, w0, w8, wk⟩
      · exact absurd z e
      · refine ⟨_, atI_nat hp, rfl, pd rfl k3 (conK (pd rfl k4 (conK (pd rfl k5 (nilK ?_)))))⟩
        have tail : ∀ m : Int, 0 ≤ m → ∀ ρ, ρ = [some (.pot true), some (.dat (flD rows)), some (.dat (.list ps)), some (.dat (.list [.int s0, .int s1, .int s2])), some (.own false (.list vs)), some (.dat (.int (i : Nat))), some (.dat (rowD r)), some (.dat (.int g)), some (.dat (.list (sts ws))), some (.dat (.bool b)), some (.dat (.int m))] → sExpr (fMut 4 mAppend (fCons (f2 gIx (fVar 8) (f2 (gI (fun _ j => 0 < j) fun i j => .int (i % j)) (fVar 10) (fB (g1 gLen) (fCons (fVar 8) fNil)))) fNil)) ρ { nx := C', rt := fun a ρ => rtK a ρ k } fun c _ => x c := fun m m0 ρ e' => by
          subst e'
          have wl : ((sts ws).length : Int) = ws.length := by rw [List.length_map]
          have p0 : (0 : Int) < (sts ws).length := by rw [wl]; omega
          obtain ⟨q, v, eq, hv, e2⟩ := atI_get (xs := sts ws) (i := m % ((sts ws).length : Int)) (Int.emod_nonneg _ (by omega)) (Int.emod_lt_of_pos _ p0)
          rw [List.getElem?_map] at hv
          obtain ⟨z, hz, rfl⟩ := Option.map_eq_some_iff.mp hv
          exact ⟨p0, _, e2, rfl, hlen, fin _ _ _ _ _ ⟨e, wk z (List.mem_of_getElem? hz)⟩ .dat .dat .dat .dat⟩
        cases b with
        | true =>
          refine ⟨Nat.le_refl 1, rfl, ((sts ws).length : Int), rfl, by rw [List.length_map]; omega, by rw [List.length_map]; omega, fun j j0 j1 => ⟨.inl rfl, pkd rfl k6 (tail j j0 _ rfl)⟩⟩
        | false =>
          obtain ⟨m, hm, m0⟩ := spots g hg
          exact ⟨_, hm, pkd rfl k6 (tail m m0 _ rfl)⟩
  · obtain ⟨vs, c1, c2, c3, c4, c5, c6, rfl, _, vo⟩ := hI
    rw [enumD_len, List.length_map, List.take_length] at vo
    exact hk vs vo
end K23
set_option Elab.async false
set_option linter.all false
set_option maxRecDepth 100000
namespace K23
open PySem PySem.Spec PyProof.Rows L2 Evl Kc Kz Kx Tr Mg
theorem imp_rows : ∀ as k x, as.length = 4 → F_rows as k x → fb_law_rows (start0 7 as) (Ok k) fun c _ => x c := by
  rintro _ k x _ ⟨rows, m, far, rfl, hr, ht, m0, m60, hk⟩
  refine ⟨Nat.le_refl 1, rfl, rows, far, rfl, hr, ht, fun ps pl => ⟨.inl rfl, ?_⟩⟩
  refine ⟨Nat.le_refl 1, rfl, (m : Int), rfl, by omega, by omega, fun j j0 j1 => ⟨.inl rfl, ⟨by omega, by omega⟩, rfl, ?_⟩⟩
  refine lcF_by (fun i acc ρ => ρ = [some (.pot true), some (.dat (flD rows)), some (.dat (.int m)), some (.dat (.int far)), some (.own false (.list ps)), none, none] ∧ ∃ vs : List (List D), acc = vs.map PyData.tuple ∧ vs.length = i ∧ ∀ v ∈ vs, VerOk 100 rows v) (fun i d acc ρ hd hI C' hC => ?_) (fun acc ρ hI => ?_) ⟨rfl, [], rfl, rfl, nofun⟩
  · obtain ⟨rfl, vs, rfl, hl, hv⟩ := hI
    obtain ⟨hi, rfl⟩ := rngD_get hd
    refine ⟨Nat.le_refl 1, rfl, rows, ps, rfl, hr, ht, pl, fun ds vo => ⟨.inr (ver_tup vo), ?_, hC _ _ ⟨rfl, vs ++ [ds], ?_, ?_, ?_⟩⟩⟩
    · rw [List.length_map]
      exact small1000 (by omega)
    · rw [List.map_append]
      rfl
    · rw [List.length_append, hl]; rfl
    · intro y h
      obtain h | h := List.mem_append.mp h
      · exact hv y h
      · rw [List.mem_singleton.mp h]
        exact vo
  · obtain ⟨rfl, vs, rfl, hl, hv⟩ := hI
    rw [rngD_len] at hl
    refine ⟨Nat.le_refl 1, rfl, 5, rfl, by decide, by decide, fun q q0 q1 => ⟨.inl rfl, ⟨sh_int _, sh_int _⟩, ifI (fun _ => ?_) fun _ => ?_⟩⟩
    · have ll : ((vs.map PyData.tuple).length : Int) = vs.length := by rw [List.length_map]
      refine ⟨Nat.le_refl 1, rfl, ((vs.map PyData.tuple).length : Int), rfl, by omega, by omega, fun u u0 u1 => ⟨.inl rfl, ?_⟩⟩
      obtain ⟨n, v, rfl, hv', e⟩ := atI_get u0 u1
      rw [List.getElem?_map] at hv'
      obtain ⟨w, hw, rfl⟩ := Option.map_eq_some_iff.mp hv'
      refine ⟨_, e, rfl, ?_, ?_⟩
      · rw [List.length_map]
        exact small1000 (by omega)
      · have := hk (vs ++ [w]) (by rw [List.length_append]; exact Nat.succ_pos _) (by rw [List.length_append]; show vs.length + 1 ≤ _; omega) (fun y h => by
          obtain h | h := List.mem_append.mp h
          · exact hv y h
          · rw [List.mem_singleton.mp h]
            exact hv w (List.mem_of_getElem? hw))
        rw [List.map_append] at this
        exact this
    · exact hk vs (by omega) (by omega) hv
end K23
set_option Elab.async false
set_option linter.all false
set_option maxRecDepth 100000
namespace K23
open PySem PySem.Spec PyProof.Rows L2 Evl Kc Kz Kx Tr Mg
theorem sh_bl (b : Bool) : SeqAt.shaped (.bool b) = true := by cases b <;> decide +kernel
theorem eqB (a b : Bool) : eqD (.bool a) (.bool b) = (a == b) := by
  show PyData.eqv (.bool a) (.bool b) = _
  simp only [PyData.eqv]
theorem imp_problem (C : Addr) : ∀ as k x, as.length = 2 → F_problem as k x → fb_field_problem C (start0 7 as) (Ok k) fun c _ => x c := by
  rintro _ k x _ ⟨rows, r, rfl, ⟨hw, ht, hn, ht', hl, hc⟩, hk⟩
  refine ⟨Nat.zero_le 1, rfl, r, rfl, hw, ht, .inl rfl, rfl, rfl, ?_⟩
  refine lcF_by (fun i acc ρ => ρ = start0 7 [.dat (rowD r), .dat (flD rows), .dat (.str r.1), .dat (.str r.2)] ∧ acc = sts ((rows.take i).map (·.1))) (fun i d acc ρ hd hI C' hC => ?_) (fun acc ρ hI => ?_) ⟨rfl, rfl⟩
  · obtain ⟨rfl, rfl⟩ := hI
    obtain ⟨q, hq, rfl⟩ := row_get hd
    refine ⟨_, rfl, ?_, hC _ _ ⟨rfl, ?_⟩⟩
    · rw [List.length_map, List.length_map, List.length_take]
      exact small1000 (by omega)
    · rw [take_succ hq, List.map_append]
      show _ = List.map PyData.str (_ ++ _)
      rw [List.map_append]
      rfl
  · obtain ⟨rfl, rfl⟩ := hI
    rw [List.length_map, List.take_length]
    refine ⟨.inl ?_, ?_⟩
    · show (true && (sts _).all flatD) = true
      rw [flat_sts]
      rfl
    rw [in_strs]
    refine ifs (fun e => absurd e (by simpa using hn)) fun _ => ⟨rfl, ?_⟩
    refine lcF_by (fun i acc ρ => ρ = start0 7 [.dat (rowD r), .dat (flD rows), .dat (.str r.1), .dat (.str r.2)] ∧ acc = ((rows.take i).filter fun q => isC q.2 == isC r.2).map rowD) (fun i d acc ρ hd hI C' hC => ?_) (fun acc ρ hI => ?_) ⟨rfl, rfl⟩
    · obtain ⟨rfl, rfl⟩ := hI
      obtain ⟨q, hq, rfl⟩ := row_get hd
      have tq := ht' q (List.mem_of_getElem? hq)
      refine ⟨_, rfl, ⟨three_sh tq, sh_cnt⟩, ⟨three_sh ht, sh_cnt⟩, ⟨sh_bl _, sh_bl _⟩, ?_⟩
      rw [eqB, eqS, eqS]
      refine ifs (fun e => ⟨?_, hC _ _ ⟨rfl, ?_⟩⟩) fun e => hC _ _ ⟨rfl, ?_⟩
      · rw [List.length_map]
        refine small1000 (Nat.le_trans (List.length_filter_le _ _) ?_)
        rw [List.length_take]
        omega
      · rw [take_succ hq, List.filter_append, List.filter_cons_of_pos (by exact e), List.map_append]
        rfl
      · rw [take_succ hq, List.filter_append, List.filter_cons_of_neg (by rw [Bool.not_eq_true]; exact e), List.map_append]
        exact (List.append_nil _).symm
    · obtain ⟨rfl, rfl⟩ := hI
      rw [List.length_map, List.take_length]
      refine ⟨⟨three_sh ht, sh_cnt⟩, ifS (fun e => ?_) fun e => ?_⟩
      · rw [show isC r.2 = true from decide_eq_true e, if_pos rfl] at hc
        refine ⟨⟨sh_int _, sh_int _⟩, ifI (fun z => ?_) fun _ => hk⟩
        rw [List.length_map] at z
        exact absurd (by rw [show isC r.2 = true from decide_eq_true e] at z; omega) hc
      · rw [show isC r.2 = false from decide_eq_false e, if_neg (by decide)] at hc
        refine ⟨⟨sh_int _, sh_int _⟩, ifI (fun z => ?_) fun _ => hk⟩
        rw [List.length_map] at z
        exact absurd (by rw [show isC r.2 = false from decide_eq_false e] at z; omega) hc
theorem rows_fit {rows : List Mg.Row} {a b i : Nat} {r : Mg.Row} (h : RowsOk rows a b) (ha : a ≤ 12) (hb : b ≤ 4) (hr : rows[i]? = some r) : Fits (rows.take i) r := by
  have hm := List.mem_of_getElem? hr
  have sub : (rows.take (i + 1)).Sublist rows := List.take_sublist _ _
  have tk := take_succ hr
  refine ⟨h.nm r hm, h.kd r hm, ?_, fun q hq => h.kd q (List.mem_of_mem_take hq), ?_, ?_⟩
  · have nd := (sub.map (·.1)).nodup h.nd
    rw [tk, List.map_append, List.nodup_append] at nd
    intro z
    exact nd.2.2 _ z _ (List.mem_singleton_self _) rfl
  · rw [List.length_take]
    have := h.len
    omega
  · have cnt : ((rows.take i).filter fun q => isC q.2 == isC r.2).length + 1 ≤ (rows.filter fun q => isC q.2 == isC r.2).length := by
      have := (sub.filter fun q => isC q.2 == isC r.2).length_le
      rw [tk, List.filter_append, List.filter_cons_of_pos (by simp), List.length_append] at this
      exact this
    cases e : isC r.2 with
    | true =>
      rw [e] at cnt
      have : (rows.filter fun q => isC q.2 == true) = rows.filter fun q => isC q.2 := List.filter_congr fun q _ => by cases isC q.2 <;> rfl
      rw [this, h.cs] at cnt
      show _ ≠ 4
      omega
    | false =>
      rw [e] at cnt
      have : (rows.filter fun q => isC q.2 == false) = rows.filter fun q => !isC q.2 := List.filter_congr fun q _ => by cases isC q.2 <;> rfl
      rw [this, h.ls] at cnt
      show _ ≠ 12
      omega
theorem imp_init : ∀ p as k x, as.length = 1 → F_init as k x → fb_init p (start0 8 (.raw (.ref p) :: as)) k fun c _ => x c := by
  rintro p _ k x _ ⟨rows, a, b, rfl, ok, ha, hb, h0, hk⟩
  have hl := ok.len
  refine ⟨⟨sh_int _, sh_int _⟩, ifI (fun z => ?_) fun _ => ?_⟩
  · rw [List.length_map] at z
    omega
  refine ⟨sz (by simp), ?_⟩
  refine forF_by (fun i ρ => ∃ (c1 c2 c3 c4 c5 : Option AV), ρ = [some (.raw (.ref p)), some (.dat (flD rows)), some (.own false (.list ((rows.take i).map rowD))), c1, c2, c3, c4, c5] ∧ Cl c1 ∧ Cl c2 ∧ Cl c3 ∧ Cl c4 ∧ Cl c5) (fun i d ρ hd hI C' hC => ?_) (fun ρ hI => ?_) ⟨none, none, none, none, none, rfl, .no, .no, .no, .no, .no⟩
  · obtain ⟨c1, c2, c3, c4, c5, rfl, k1, k2, k3, k4, k5⟩ := hI
    obtain ⟨q, hq, rfl⟩ := enum_get hd
    obtain ⟨r, hr, rfl⟩ := row_get hq
    rw [Nat.zero_add]
    refine ⟨rfl, pd rfl k1 (conK (pd rfl k2 (nilK ?_)))⟩
    refine ⟨Nat.zero_le 1, rfl, rows.take i, r, rfl, rows_fit ok ha hb hr, .inr (by simp [flAV, tupD]), pkd rfl k3 ?_⟩
    refine ⟨rfl, pd rfl k4 (conK (pd rfl k5 (nilK ?_)))⟩
    refine ⟨sz (by simp), rfl, ?_, hC _ ⟨some (.dat (.int (i : Nat))), some (.dat (rowD r)), some (.dat .none), some (.dat (.str r.1)), some (.dat (.str r.2)), ?_, .dat, .dat, .dat, .dat, .dat⟩⟩
    · rw [List.length_map, List.length_take]
      exact small1000 (by omega)
    · rw [take_succ hr, List.map_append]
      rfl
  · obtain ⟨c1, c2, c3, c4, c5, rfl, _⟩ := hI
    rw [enumD_len, List.length_map, List.take_length]
    exact ⟨rfl, hk⟩
end K23
set_option Elab.async false
set_option linter.all false
set_option maxRecDepth 100000
namespace K23
open PySem PySem.Spec PyProof.Rows L2 Evl Kc Kz Kx Tr Mg
abbrev Shows (d : D) : Prop := (d.canLay0 = true ∧ (∃ ds, d = .list ds ∨ d = .tuple ds)) ∧ d.showable = true ∧ d.hasDict = false ∧ d.depth ≤ 40 ∧ d.shown.length ≤ sizeLine
theorem rv {n : Nat} {rows : List Mg.Row} {ds : List D} (hn : n ≤ 1900) (hr : rows.length ≤ 20) (h : VerOk n rows ds) : Shows (.tuple ds) := (repr_ver (k := fun _ => True) hn hr h trivial).1
end K23
set_option Elab.async false
set_option linter.all false
set_option maxRecDepth 100000
namespace K23
open PySem PySem.Spec PyProof.Rows L2 Evl Kc Kz Kx Tr Mg
end K23
set_option Elab.async false
set_option linter.all false
set_option maxRecDepth 100000
namespace K23
open PySem PySem.Spec PyProof.Rows L2 Evl Kc Kz Kx Tr Mg
end K23
set_option Elab.async false
set_option linter.all false
set_option maxRecDepth 100000
namespace K22
open PySem PySem.Spec PyProof.Rows L2 Evl Kc Kz Kx Tr Mg K23
theorem ifNS {a b : Str} {P Q : Prop} (h1 : a ≠ b → P) (h2 : a = b → Q) : if (!eqD (.str a) (.str b)) = true then P else Q := by
  rw [eqS]
  by_cases h : a = b
  · rw [decide_eq_true h]; exact h2 h
  · rw [decide_eq_false h]; exact h1 h
theorem lab_yes {rows : List Mg.Row} {i : Nat} (h : lab rows i = true) : ∃ r, rows[i]? = some r ∧ r.2 ≠ "counter" := by
  unfold lab at h
  cases here : rows[i]? with
  | none => rw [here] at h; cases h
  | some r =>
    rw [here] at h
    refine ⟨r, rfl, fun z => ?_⟩
    have h : (!isC r.2) = true := h
    rw [show isC r.2 = true from decide_eq_true z] at h
    cases h
theorem marks_mem {rows : List Mg.Row} {i : Nat} (h : i ∈ marks rows) : ∃ r, rows[i]? = some r ∧ r.2 ≠ "counter" := lab_yes (List.mem_filter.mp h).2
theorem marks_len (rows : List Mg.Row) : (marks rows).length ≤ rows.length := Nat.le_trans (List.length_filter_le _ _) (by rw [List.length_range]; exact Nat.le_refl _)
theorem fm_snoc {α β : Type} {l : List α} {f : α → Option β} {a : α} : (l ++ [a]).filterMap f = l.filterMap f ++ (f a).toList := by
  rw [List.filterMap_append]
  cases e : f a <;> simp [List.filterMap_cons, e]
theorem sts_app (a b : List Str) : sts (a ++ b) = sts a ++ sts b := List.map_append
end K22
set_option Elab.async false
set_option linter.all false
set_option maxRecDepth 100000
namespace K22
open PySem PySem.Spec PyProof.Rows L2 Evl Kc Kz Kx Tr Mg K23
abbrev oth : List (Str × Str) := [("mine", "theirs"), ("theirs", "mine"), ("counter", "counter")]
theorem lay_ints : ∀ ns : List Nat, PyData.canLayAll0 (iDs ns) = true ∧ PyData.depthAll (iDs ns) = 0
  | [] => ⟨by simp [PyData.canLayAll0], by simp [PyData.depthAll]⟩
  | n :: ns => by
    obtain ⟨a, b⟩ := lay_ints ns
    exact ⟨by simp only [List.map_cons, PyData.canLayAll0, PyData.canLay0, a, Bool.and_self], by simp only [List.map_cons, PyData.depthAll, PyData.depth, b, Nat.max_self]⟩
theorem sh_list {ds : List D} (a : PyData.canLayAll0 ds = true) (b : PyData.depthAll ds = 0) : SeqAt.shaped (.list ds) = true := by
  show (PyData.canLay0 _ && decide (PyData.depth _ ≤ 64)) = true
  simp only [PyData.canLay0, PyData.depth, a, b]
  rfl
theorem sh_nil : SeqAt.shaped (.list []) = true := sh_list (by simp [PyData.canLayAll0]) (by simp [PyData.depthAll])
theorem eq_nil_nil : eqD (.list []) (.list []) = true := SeqAt.eqv_refl _ (by simp [PyData.canLay0, PyData.canLayAll0])
theorem eq_cons_nil (d : D) (ds : List D) : eqD (.list (d :: ds)) (.list []) = false := by
  show PyData.eqv (.list (d :: ds)) (.list []) = false
  simp [PyData.eqv, PyData.eqvAll]
theorem cut_to {ds : List D} {n : Nat} (h : n ≤ ds.length) : Tr.cutD ds none (some (n : Int)) = ds.take n := by
  unfold Tr.cutD
  rw [HT.sIx_none, HT.sIx_nat, List.drop_zero, Nat.min_eq_left h]
  rfl
theorem cut_from {ds : List D} {n : Nat} (h : n ≤ ds.length) : Tr.cutD ds (some (n : Int)) none = ds.drop n := by
  unfold Tr.cutD
  rw [HT.sIx_none, HT.sIx_nat, Nat.min_eq_left h]
  exact List.take_of_length_le (by rw [List.length_drop]; exact Nat.le_refl _)
theorem ver_put {n : Nat} {v : D} : ∀ {rs : List Mg.Row} {ds : List D} {i : Nat} {r : Mg.Row}, VerOk n rs ds → rs[i]? = some r → ValOk n r.2 v → VerOk n rs (ds.take i ++ v :: ds.drop (i + 1))
  | _, _, i, _, .nil, e, _ => by cases i <;> cases e
  | _, _, 0, _, .cons h t, e, hv => by cases Option.some.inj e; exact .cons hv t
  | _, _, i + 1, _, .cons h t, e, hv => .cons h (ver_put (i := i) t e hv)
theorem imp_bent : ∀ as k x, as.length = 3 → F_bent as k x → fb_law_bent (start0 5 as) (Ok k) fun c _ => x c := by
  rintro _ k x _ ⟨rows, ds, rfl, hr, ht, hv, hk⟩
  refine ⟨Nat.zero_le 1, rfl, rows, rfl, hr, ht, .inl rfl, sz (by simp), ⟨sh_list (lay_ints _).1 (lay_ints _).2, sh_nil⟩, ?_⟩
  have ml := marks_len rows
  cases hm : marks rows with
  | nil =>
    exact hk ds hv
  | cons n0 ns =>
    rw [hm] at ml
    refine ⟨Nat.le_refl 1, rfl, 3, rfl, by decide, by decide, fun q q0 q1 => ⟨.inl rfl, ifs (fun _ => hk ds hv) fun _ => ?_⟩⟩
    refine ⟨Nat.le_refl 1, rfl, iDs (n0 :: ns), rfl, by rw [List.length_map]; exact Nat.succ_pos _, by rw [List.length_map]; omega, fun d hd => ?_⟩
    obtain ⟨n, hn, rfl⟩ := List.mem_map.mp hd
    obtain ⟨r, hr1, nc⟩ := marks_mem (rows := rows) (by rw [hm]; exact hn)
    have hi := (List.getElem?_eq_some_iff.mp hr1).1
    have dl := hv.len
    refine ⟨.inr (by simp [flAV, tupD]), ?_⟩
    refine ⟨sz (by simp), Nat.le_refl 1, rfl, [], rfl, by simp, fun z hz _ => ⟨.inl rfl, sz (by simp), ?_, ?_, ?_⟩⟩
    · rw [cut_to (by omega), List.length_take]
      refine Nat.le_of_lt (small1000 ?_)
      show _ + 1 ≤ _
      omega
    · show _ + List.length (Tr.cutD ds (some ((n : Int) + 1)) none) ≤ _
      rw [show ((n : Int) + 1) = ((n + 1 : Nat) : Int) by omega, cut_to (by omega), cut_from (by omega), List.length_append, List.length_take, List.length_drop]
      refine Nat.le_of_lt (small1000 ?_)
      show _ + 1 + _ ≤ _
      omega
    · show k (.dat (.tuple (Tr.cutD ds none (some (n : Int)) ++ [.str z] ++ Tr.cutD ds (some ((n : Int) + 1)) none)))
      rw [show ((n : Int) + 1) = ((n + 1 : Nat) : Int) by omega, cut_to (by omega), cut_from (by omega), List.append_assoc]
      exact hk _ (ver_put hv hr1 ⟨nc, hz⟩)
end K22
set_option Elab.async false
set_option linter.all false
set_option maxRecDepth 100000
namespace K22
open PySem PySem.Spec PyProof.Rows L2 Evl Kc Kz Kx Tr Mg K23
def Np (c : Option AV) : Prop := ∀ b, c = some b → b.isPar = false
theorem Np.put {ρ : S} {i : Nat} {a : AV} {k : S → Prop} {c : Option AV} (e : ρ[i]? = some c) (h : Np c) (np : a.isPar = false) (na : ∀ j, a ≠ .at j) (hk : k (ρ.set i (some a))) : Tr.putK i a ρ k := put_mk (fun b hb => h b (Option.some.inj (e.symm.trans hb))) np na hk
end K22
set_option Elab.async false
set_option linter.all false
set_option maxRecDepth 100000
namespace K27
open PySem PySem.Spec PyProof.Rows L2 Evl Kc Kz Kx Tr Mg K23 K22
section
variable {α : Type} [deq : DecidableEq α]
theorem uniq_snoc (l : List α) (z : α) : uniq (l ++ [z]) = if z ∈ uniq l then uniq l else uniq l ++ [z] := by
  unfold uniq
  rw [List.foldl_append]
  rfl
theorem snoc_ind {P : List α → Prop} (h0 : P []) (h1 : ∀ l z, P l → P (l ++ [z])) : ∀ l, P l := fun l => by
  have key : ∀ n (l : List α), l.length = n → P l := fun n => by
    induction n with
    | zero => intro l h; rw [List.eq_nil_of_length_eq_zero h]; exact h0
    | succ n ih =>
      intro l h
      have ne : l ≠ [] := fun z => by rw [z] at h; cases h
      rw [← List.dropLast_concat_getLast ne]
      exact h1 _ _ (ih _ (by rw [List.length_dropLast, h]; rfl))
  exact key _ l rfl
theorem uniq_mem (l : List α) : ∀ z, z ∈ uniq l ↔ z ∈ l := by
  refine snoc_ind (P := fun l => ∀ z, z ∈ uniq l ↔ z ∈ l) (fun z => Iff.rfl) (fun l y ih z => ?_) l
  rw [uniq_snoc]
  split
  · rename_i h
    rw [List.mem_append, ih]
    exact ⟨.inl, fun e => e.elim id fun e => by rw [List.mem_singleton.mp e]; exact (ih y).mp h⟩
  · rw [List.mem_append, List.mem_append, ih]
end
end K27
set_option Elab.async false
set_option linter.all false
set_option maxRecDepth 100000
namespace K27
open PySem PySem.Spec PyProof.Rows L2 Evl Kc Kz Kx Tr Mg K23 K22
theorem tup_get {vs : List (List D)} {n : Nat} {d : D} (h : (vs.map PyData.tuple)[n]? = some d) : ∃ v, vs[n]? = some v ∧ d = .tuple v := by
  rw [List.getElem?_map] at h
  obtain ⟨v, h1, h2⟩ := Option.map_eq_some_iff.mp h
  exact ⟨v, h1, h2.symm⟩
end K27
set_option Elab.async false
set_option linter.all false
set_option maxRecDepth 100000
namespace K27
open PySem PySem.Spec PyProof.Rows L2 Evl Kc Kz Kx Tr Mg K23 K22
end K27
set_option Elab.async false
set_option linter.all false
set_option maxRecDepth 100000
namespace K27
open PySem PySem.Spec PyProof.Rows L2 Evl Kc Kz Kx Tr Mg K23 K22
end K27
set_option Elab.async false
set_option linter.all false
set_option maxRecDepth 100000
namespace K27
open PySem PySem.Spec PyProof.Rows L2 Evl Kc Kz Kx Tr Mg K23 K22
end K27
set_option Elab.async false
set_option linter.all false
set_option maxRecDepth 100000
namespace K24
open PySem PySem.Spec PyProof.Rows L2 Evl Kc Kz Kx Tr Mg K23 K22 K27
end K24
set_option Elab.async false
set_option linter.all false
set_option maxRecDepth 100000
namespace K24
open PySem PySem.Spec PyProof.Rows L2 Evl Kc Kz Kx Tr Mg K23 K22 K27
end K24
set_option Elab.async false
set_option linter.all false
set_option maxRecDepth 100000
namespace K24
open PySem PySem.Spec PyProof.Rows L2 Evl Kc Kz Kx Tr Mg K23 K22 K27
end K24
set_option Elab.async false
set_option linter.all false
set_option maxRecDepth 100000
namespace K24
open PySem PySem.Spec PyProof.Rows L2 Evl Kc Kz Kx Tr Mg K23 K22 K27
def stL (s : Stp) : List D := [.int s.1, .int s.2.1, .int s.2.2]
end K24
set_option Elab.async false
set_option linter.all false
set_option maxRecDepth 100000
namespace K24
open PySem PySem.Spec PyProof.Rows L2 Evl Kc Kz Kx Tr Mg K23 K22 K27
end K24
set_option Elab.async false
set_option linter.all false
set_option maxRecDepth 100000
namespace KA
open PySem PySem.Spec PyProof.Rows L2 Evl Kc Kz Kx Tr Mg K23 K22 K27
theorem bools_map {k : List Bool → Prop} : ∀ {bs : List Bool}, k bs → boolsK (bs.map PyData.bool) k := by
  intro bs
  induction bs generalizing k with
  | nil => exact id
  | cons b bs ih => intro h; exact ih (k := fun l => k (b :: l)) h
theorem imp_nameA : ∀ as k x, as.length = 1 → F_nameA as k x → fb_is_name (start0 2 as) (Ok k) fun c _ => x c := by
  rintro _ k x _ ⟨d, rfl, sh, hk⟩
  cases d with
  | str z =>
    have sh : z.length ≤ 1000 := sh
    have hk : k (.dat (.bool (decide (1 ≤ (z.length : Int)) && (decide ((z.length : Int) ≤ 8) && z.cps.toList.all fun c => decide (c ∈ abc.cps.toList))))) := hk
    refine ⟨Nat.le_of_lt (small1000 sh), ifs (fun e1 => ifs (fun e2 => ?_) fun e2 => ?_) fun e1 => ?_⟩
    · refine ⟨rfl, ?_⟩
      refine lcF_by (fun i acc ρ => ρ = start0 2 [.dat (.str z)] ∧ acc = ((z.cps.toList.take i).map fun c => decide (c ∈ abc.cps.toList)).map PyData.bool) (fun i d acc ρ hd hI C' hC => ?_) (fun acc ρ hI => ?_) ⟨rfl, rfl⟩
      · obtain ⟨rfl, rfl⟩ := hI
        rw [List.getElem?_map] at hd
        obtain ⟨c, hc, rfl⟩ := Option.map_eq_some_iff.mp hd
        have hi := (List.getElem?_eq_some_iff.mp hc).1
        have hz : z.cps.toList.length = z.length := rfl
        refine ⟨c, rfl, ?_, hC _ _ ⟨rfl, ?_⟩⟩
        · rw [List.length_map, List.length_map, List.length_take]
          exact small1000 (by omega)
        · rw [take_succ hc, List.map_append, List.map_append]
          show _ ++ [PyData.bool (false ^^ decide (c ∈ abc.cps.toList))] = _
          rw [Bool.false_xor]
          rfl
      · obtain ⟨rfl, rfl⟩ := hI
        rw [List.length_map, List.take_length]
        refine bools_map ?_
        rw [show decide (1 ≤ (z.length : Int)) = true from e1, show decide ((z.length : Int) ≤ 8) = true from e2, Bool.true_and, Bool.true_and] at hk
        show k (.dat (.bool ((z.cps.toList.map fun c => decide (c ∈ abc.cps.toList)).all id)))
        rw [List.all_map]
        exact hk
    · rw [show decide ((z.length : Int) ≤ 8) = false from e2, Bool.false_and, Bool.and_false] at hk
      exact hk
    · rw [show decide (1 ≤ (z.length : Int)) = false from e1, Bool.false_and] at hk
      exact hk
  | _ => exact hk
theorem imp_wholeA : ∀ as k x, as.length = 1 → F_wholeA as k x → fb_is_whole_number (start0 1 as) (Ok k) fun c _ => x c := by
  rintro _ k x _ ⟨d, rfl, hk⟩
  cases d <;> exact hk
theorem imp_valueA : ∀ as k x, as.length = 2 → F_valueA as k x → fb_is_value (start0 2 as) (Ok k) fun c _ => x c := by
  rintro _ k x _ ⟨kd, d, rfl, t, sh, hk⟩
  unfold valueB at hk
  refine ⟨⟨three_sh t, sh_cnt⟩, ifS (fun e => ?_) fun e => ?_⟩
  · rw [if_pos e] at hk
    exact ⟨Nat.zero_le 1, rfl, d, rfl, .inl rfl, hk⟩
  · rw [if_neg e] at hk
    exact ⟨Nat.zero_le 1, rfl, d, rfl, sh, .inl rfl, hk⟩
theorem values_len : ∀ {rows : List Mg.Row} {ds : List D}, rows.length ≠ ds.length → valuesB rows ds = false
  | [], [], h => absurd rfl h
  | [], _ :: _, _ => rfl
  | _ :: _, [], _ => rfl
  | r :: rs, d :: ds, h => by
    show (valueB r.2 d && valuesB rs ds) = false
    rw [values_len fun e => h (congrArg (· + 1) e), Bool.and_false]
def valsL : List Mg.Row → List D → List Bool
  | r :: rs, d :: ds => valueB r.2 d :: valsL rs ds
  | _, _ => []
theorem vals_all : ∀ {rows : List Mg.Row} {ds : List D}, rows.length = ds.length → (valsL rows ds).all id = valuesB rows ds
  | [], [], _ => rfl
  | r :: rs, d :: ds, h => by
    show (valueB r.2 d && (valsL rs ds).all id) = (valueB r.2 d && valuesB rs ds)
    rw [vals_all (Nat.succ.inj h)]
theorem vals_at : ∀ {rows : List Mg.Row} {ds : List D} {i : Nat} {r : Mg.Row} {d : D}, rows[i]? = some r → ds[i]? = some d → (valsL rows ds)[i]? = some (valueB r.2 d)
  | r :: rs, d :: ds, 0, _, _, h1, h2 => by cases Option.some.inj h1; cases Option.some.inj h2; rfl
  | r :: rs, d :: ds, i + 1, _, _, h1, h2 => vals_at (rows := rs) (ds := ds) (i := i) h1 h2
theorem vals_length : ∀ {rows : List Mg.Row} {ds : List D}, rows.length = ds.length → (valsL rows ds).length = rows.length
  | [], _, _ => rfl
  | r :: rs, d :: ds, h => congrArg (· + 1) (vals_length (Nat.succ.inj h))
theorem imp_versionA (C : Addr) : ∀ as k x, as.length = 2 → F_versionA C as k x → fb_is_version C (start0 5 as) (Ok k) fun c _ => x c := by
  rintro _ k x _ ⟨rows, d, rfl, hr, ht, sh, dl, hk⟩
  cases d with
  | tuple ds =>
    have sh : ∀ d ∈ ds, shortD d := sh
    have dl := dl ds rfl
    have hk : k (.dat (.bool (valuesB rows ds))) := hk
    refine ⟨rfl, rows.map rowD, rfl, ⟨by omega, by rw [List.length_map]; omega⟩, ⟨sh_int _, sh_int _⟩, ifNI (fun z => ?_) fun z => ?_⟩
    · rw [values_len fun e => z (by rw [List.length_map, e])] at hk
      exact hk
    have hl : rows.length = ds.length := by rw [List.length_map] at z; omega
    refine ⟨rfl, rows.map rowD, rfl, rfl, ?_⟩
    refine lcF_by (fun i acc ρ => ρ = start0 5 [schO C rows, .dat (.tuple ds)] ∧ acc = ((valsL rows ds).take i).map PyData.bool) (fun i e acc ρ he hI C' hC => ?_) (fun acc ρ hI => ?_) ⟨rfl, rfl⟩
    · obtain ⟨rfl, rfl⟩ := hI
      obtain ⟨a, b, ha, hb, rfl⟩ := K23.zip_get he
      obtain ⟨r, hr1, rfl⟩ := row_get ha
      have hi := (List.getElem?_eq_some_iff.mp hr1).1
      refine ⟨rfl, rfl, ⟨Nat.zero_le 1, rfl, r.2, b, rfl, ht r (List.mem_of_getElem? hr1), sh b (List.mem_of_getElem? hb), .inl rfl, ?_, hC _ _ ⟨rfl, ?_⟩⟩⟩
      · rw [List.length_map]
        exact small1000 (Nat.le_trans (List.length_take_le _ _) (by omega))
      · rw [take_succ (vals_at hr1 hb), List.map_append]
        rfl
    · obtain ⟨rfl, rfl⟩ := hI
      have zl : (Tr.zipD (rows.map rowD) ds).length = (valsL rows ds).length := by
        unfold Tr.zipD
        rw [List.length_map, List.length_zip, List.length_map, vals_length hl, ← hl, Nat.min_self]
      rw [zl, List.take_length]
      refine bools_map ?_
      show k (.dat (.bool ((valsL rows ds).all id)))
      rw [vals_all hl]
      exact hk
  | _ => exact hk
end KA
set_option Elab.async false
set_option linter.all false
set_option maxRecDepth 100000
namespace KA
open PySem PySem.Spec PyProof.Rows L2 Evl Kc Kz Kx Tr Mg K23 K22 K27
def F_rowA : FD := fun as k _ => ∃ (rows : List Mg.Row) (d : D), as = [.dat (flD rows), .dat d] ∧ rows.length ≤ 20 ∧ (∀ r ∈ rows, three r.2) ∧ shortVs d ∧ (∀ ds, d = .tuple ds → ds.length ≤ 1000) ∧ k (.dat (.bool (versionB rows d)))
theorem imp_lint : ∀ as k x, as.length = 1 → F_wholeA as k x → fb_law_is_int (start0 1 as) (Ok k) fun c _ => x c := by
  rintro _ k x _ ⟨d, rfl, hk⟩
  cases d <;> exact hk
theorem imp_lword : ∀ as k x, as.length = 1 → F_nameA as k x → fb_law_is_word (start0 2 as) (Ok k) fun c _ => x c := by
  rintro _ k x _ ⟨d, rfl, sh, hk⟩
  cases d with
  | str z =>
    have sh : z.length ≤ 1000 := sh
    have hk : k (.dat (.bool (decide (1 ≤ (z.length : Int)) && (decide ((z.length : Int) ≤ 8) && z.cps.toList.all fun c => decide (c ∈ abc.cps.toList))))) := hk
    have go : ∀ N : EndsT, (∀ b : Bool, b = (z.cps.toList.all fun c => decide (c ∈ abc.cps.toList)) → N.rt (.dat (.bool b)) (start0 2 [.dat (.str z)])) → (sRet (fB (g1 gAll) (fCons (fLc [1] (iSeq sK (fFrz 0)) (gN 1) fYes (f2 (gIn false) (fVar 1) (fC (.dat (.str "abcdefghijklmnopqrstuvwxyz"))))) fNil))) (start0 2 [.dat (.str z)]) N fun c _ => x c := by
      intro N hN
      refine ⟨rfl, ?_⟩
      refine lcF_by (fun i acc ρ => ρ = start0 2 [.dat (.str z)] ∧ acc = ((z.cps.toList.take i).map fun c => decide (c ∈ abc.cps.toList)).map PyData.bool) (fun i d acc ρ hd hI C' hC => ?_) (fun acc ρ hI => ?_) ⟨rfl, rfl⟩
      · obtain ⟨rfl, rfl⟩ := hI
        rw [List.getElem?_map] at hd
        obtain ⟨c, hc, rfl⟩ := Option.map_eq_some_iff.mp hd
        have hi := (List.getElem?_eq_some_iff.mp hc).1
        have hz : z.cps.toList.length = z.length := rfl
        refine ⟨c, rfl, ?_, hC _ _ ⟨rfl, ?_⟩⟩
        · rw [List.length_map, List.length_map, List.length_take]
          exact small1000 (by omega)
        · rw [take_succ hc, List.map_append, List.map_append]
          show _ ++ [PyData.bool (false ^^ decide (c ∈ abc.cps.toList))] = _
          rw [Bool.false_xor]
          rfl
      · obtain ⟨rfl, rfl⟩ := hI
        rw [List.length_map, List.take_length]
        refine bools_map ?_
        exact hN _ (by rw [List.all_map]; rfl)
    refine ⟨Nat.le_of_lt (small1000 sh), ifs (fun e1 => ifs (fun e2 => ?_) fun e2 => ?_) fun e1 => ?_⟩
    · have e2 : decide ((z.length : Int) ≤ 8) = false := by
        have e2 : (!decide ((z.length : Int) ≤ 8)) = true := e2
        rwa [Bool.not_eq_true'] at e2
      rw [e2, Bool.false_and, Bool.and_false] at hk
      exact hk
    · have e2 : decide ((z.length : Int) ≤ 8) = true := by
        have e2 : (!decide ((z.length : Int) ≤ 8)) = false := e2
        rwa [Bool.not_eq_false'] at e2
      refine go _ fun b hb => ?_
      rw [show decide (1 ≤ (z.length : Int)) = true from e1, e2, Bool.true_and, Bool.true_and] at hk
      rw [hb]
      exact hk
    · rw [show decide (1 ≤ (z.length : Int)) = false from e1, Bool.false_and] at hk
      exact hk
  | _ => exact hk
theorem imp_lrow : ∀ as k x, as.length = 2 → F_rowA as k x → fb_law_is_row (start0 5 as) (Ok k) fun c _ => x c := by
  rintro _ k x _ ⟨rows, d, rfl, hr, ht, sh, dl, hk⟩
  cases d with
  | tuple ds =>
    have sh : ∀ d ∈ ds, shortD d := sh
    have dl := dl ds rfl
    have hk : k (.dat (.bool (valuesB rows ds))) := hk
    refine ⟨⟨sh_int _, sh_int _⟩, ifNI (fun z => ?_) fun z => ?_⟩
    · rw [values_len fun e => z (by rw [List.length_map, e])] at hk
      exact hk
    have hl : rows.length = ds.length := by rw [List.length_map] at z; omega
    show sCons (sSet 2 (fLc [3, 4] (iZM (fCons (fFrz 0) (fCons (fFrz 1) fNil))) (gT 2 (gsCons (gN 3) (gsCons (gN 4) gsNil))) fYes (fIf (fTest (f2 gEq (f2 gIx (fVar 3) (fC (.dat (.int (1))))) (fC (.dat (.str "counter"))))) (fCall 1 F_wholeA (fCons (fVar 4) fNil)) (fCall 1 F_nameA (fCons (fVar 4) fNil))))) (sRet (fB (g1 gAll) (fCons (fVar 2) fNil))) (start0 5 [.dat (flD rows), .dat (.tuple ds)]) (Ok k) fun c _ => x c
    refine ⟨rfl, ?_⟩
    refine lcF_by (fun i acc ρ => ρ = start0 5 [.dat (flD rows), .dat (.tuple ds)] ∧ acc = ((valsL rows ds).take i).map PyData.bool) (fun i e acc ρ he hI C' hC => ?_) (fun acc ρ hI => ?_) ⟨rfl, rfl⟩
    · obtain ⟨rfl, rfl⟩ := hI
      obtain ⟨a, b, ha, hb, rfl⟩ := K23.zip_get he
      obtain ⟨r, hr1, rfl⟩ := row_get ha
      have hi := (List.getElem?_eq_some_iff.mp hr1).1
      have fin : ∀ v : Bool, v = valueB r.2 b → (((valsL rows ds).take i).map PyData.bool).length < sizeLine ∧ C' (((valsL rows ds).take i).map PyData.bool ++ [.bool v]) (start0 5 [.dat (flD rows), .dat (.tuple ds)]) := fun v hv => by
        refine ⟨?_, hC _ _ ⟨rfl, ?_⟩⟩
        · rw [List.length_map]
          exact small1000 (Nat.le_trans (List.length_take_le _ _) (by omega))
        · rw [take_succ (vals_at hr1 hb), List.map_append, hv]
          rfl
      refine ⟨rfl, .str r.2, rfl, ⟨three_sh (ht r (List.mem_of_getElem? hr1)), sh_cnt⟩, ifS (fun e => ?_) fun e => ?_⟩
      · refine ⟨Nat.zero_le 1, rfl, b, rfl, .inl rfl, fin _ ?_⟩
        unfold valueB
        rw [if_pos e]
      · refine ⟨Nat.zero_le 1, rfl, b, rfl, sh b (List.mem_of_getElem? hb), .inl rfl, fin _ ?_⟩
        unfold valueB
        rw [if_neg e]
    · obtain ⟨rfl, rfl⟩ := hI
      have zl : (Tr.zipD (rows.map rowD) ds).length = (valsL rows ds).length := by
        unfold Tr.zipD
        rw [List.length_map, List.length_zip, List.length_map, vals_length hl, ← hl, Nat.min_self]
      rw [zl, List.take_length]
      refine bools_map ?_
      show k (.dat (.bool ((valsL rows ds).all id)))
      rw [vals_all hl]
      exact hk
  | _ => exact hk
end KA
set_option Elab.async false
set_option linter.all false
set_option maxRecDepth 100000
namespace KA
open PySem PySem.Spec PyProof.Rows L2 Evl Kc Kz Kx Tr Mg K23 K22 K27
def F_somef : FD := fun as k _ => as = [.pot true] ∧ ∀ rows a b, RowsOk rows a b → a ≤ 4 → b ≤ 4 → 0 < a + b → k (.own false (flD rows))
theorem imp_somef : ∀ as k x, as.length = 1 → F_somef as k x → fb_law_some_fields (start0 3 as) (Ok k) fun c _ => x c := by
  rintro _ k x _ ⟨rfl, hk⟩
  refine ⟨Nat.le_refl 1, rfl, 5, rfl, by decide, by decide, fun i h0 h1 => ⟨.inl rfl, ?_⟩⟩
  refine ⟨Nat.le_refl 1, rfl, 5, rfl, by decide, by decide, fun j h2 h3 => ⟨.inl rfl, ?_⟩⟩
  obtain ⟨n, rfl⟩ : ∃ n : Nat, i = n := ⟨i.toNat, by omega⟩
  obtain ⟨m, rfl⟩ : ∃ m : Nat, j = m := ⟨j.toNat, by omega⟩
  refine ⟨⟨sh_int _, sh_int _⟩, ?_⟩
  rw [eqI]
  by_cases z : (n : Int) = 0
  · rw [decide_eq_true z]
    refine ⟨Nat.le_refl 1, rfl, n, max m 1, ?_, by omega, fun rows ok => ⟨.inl rfl, hk rows _ _ ok (by omega) (by omega) (by omega)⟩⟩
    show [AV.pot true, .dat (.int n), .dat (.int (if (1 : Int) > m then 1 else m))] = [AV.pot true, .dat (.int n), .dat (.int ((max m 1 : Nat) : Int))]
    rw [show (if (1 : Int) > m then 1 else (m : Int)) = ((max m 1 : Nat) : Int) by split <;> omega]
  · rw [decide_eq_false z]
    refine ⟨Nat.le_refl 1, rfl, n, m, ?_, by omega, fun rows ok => ⟨.inl rfl, hk rows _ _ ok (by omega) (by omega) (by omega)⟩⟩
    show [AV.pot true, .dat (.int n), .dat (.int (if (0 : Int) > m then 0 else m))] = [AV.pot true, .dat (.int n), .dat (.int (m : Int))]
    rw [show (if (0 : Int) > m then 0 else (m : Int)) = (m : Int) by split <;> omega]
end KA
set_option Elab.async false
set_option linter.all false
set_option maxRecDepth 100000
namespace KA
open PySem PySem.Spec PyProof.Rows L2 Evl Kc Kz Kx Tr Mg K23 K22 K27
end KA
set_option Elab.async false
set_option linter.all false
set_option maxRecDepth 100000
namespace KA
open PySem PySem.Spec PyProof.Rows L2 Evl Kc Kz Kx Tr Mg K23 K22 K27
def firstBad (rows : List Mg.Row) (ds : List D) : Option Nat := (List.range ds.length).find? (badAt rows ds)
def refused (i : Int) : List D := [.str "refused", .int i]
/-- what is due for d -/
def dueL (rows : List Mg.Row) (d : D) : List D :=
  match seqL d with
  | none => refused (-1)
  | some ds => if 1 ≤ ds.length ∧ ds.length ≤ 40 then (match firstBad rows ds with | some i => refused i | none => [.str "told", .list ds]) else refused (-1)
def GivenOk (d : D) : Prop := (∀ ds, seqL d = some ds → ∀ e ∈ ds, shortVs e ∧ ∀ us, e = .tuple us → us.length ≤ 1000) ∧ (∀ z, d = .str z → z.length ≤ 1000)
def F_metX (C : Addr) : FD := fun as k _ => ∃ (rows : List Mg.Row) (d : D), as = [schO C rows, .dat d] ∧ rows.length ≤ 20 ∧ (∀ r ∈ rows, three r.2) ∧ GivenOk d ∧ k (.own false (.list (dueL rows d)))
theorem first_some {rows : List Mg.Row} {ds : List D} {i : Nat} (h : i < ds.length) (b : badAt rows ds i = true) (n : ∀ m, m < i → badAt rows ds m = false) : firstBad rows ds = some i := by
  unfold firstBad
  rw [List.find?_range_eq_some]
  exact ⟨b, List.mem_range.mpr h, fun j hj => by rw [n j hj]; rfl⟩
theorem first_none {rows : List Mg.Row} {ds : List D} (n : ∀ i, i < ds.length → badAt rows ds i = false) : firstBad rows ds = none := by
  unfold firstBad
  rw [List.find?_eq_none]
  intro i hi
  rw [n i (List.mem_range.mp hi)]
  exact Bool.false_ne_true
end KA
set_option Elab.async false
set_option linter.all false
set_option maxRecDepth 100000
namespace Tr
open PySem PySem.Spec PyProof.Rows PyProof.V L2 Evl Kc Kz Kx
/-- sys.modules lies in the base (GM: walk_M tells it) -/
def Mods (base : Heap) : Prop := ∃ o, base.get? sysModules = some o
section
variable {X : Cx} {s : Shared} {σ : L2.St} {H : Hp} {pins : List (Addr × Obj)}
theorem not_mods (M : Mods X.base) (I : Inv X pins σ H s) {a : Addr} {c : HO} (ho : H a = some c) : a ≠ sysModules := fun e => by
  obtain ⟨o, hk⟩ := M
  have := (I.bs _ _ hk).2
  rw [e, this] at ho
  cases ho
theorem key_reads {h : Heap} (k : Key) (v : Value) (e : keyIs k v = true) : Reads h v (kD k) [] := by
  rcases keyIs_shape e with ⟨i, t, rfl, rfl⟩ | ⟨x, t, rfl, rfl⟩
  · exact .int i t
  · exact .str x t
mutual
theorem Rp.reads (M : Mods X.base) (I : Inv X pins σ H s) : ∀ {v : V} {d : D} {u : Value}, Rp X.K H v d → RelV v u → ∃ as, Reads s.heap u d as ∧ sysModules ∉ as
  | _, _, _, .non, r => by cases r; exact ⟨_, .none, by simp⟩
  | _, _, _, .bl b, r => by cases r; exact ⟨_, .bool b, by simp⟩
  | _, _, _, .int i, r => by obtain ⟨t, rfl⟩ := r; exact ⟨_, .int i t, by simp⟩
  | _, _, _, .str x, r => by obtain ⟨t, rfl⟩ := r; exact ⟨_, .str x t, by simp⟩
  | _, _, _, .lst hs ha, r => by
    cases r
    obtain ⟨its, rv, ⟨o, n, ho, hc, _, hd⟩, _⟩ := I.list (.inl (.inl hs))
    obtain ⟨as, hr, na⟩ := Rps.reads M I ha rv
    exact ⟨_, .list ho hc hd hr, by simp only [List.mem_cons, not_or]; exact ⟨fun e => not_mods M I hs e.symm, na⟩⟩
  | _, _, _, .tup hs ha, r => by
    cases r
    obtain ⟨ys, rv, ⟨ob, ho, hc, m, hd⟩, _⟩ := I.tuple hs
    obtain ⟨as, hr, na⟩ := Rps.reads M I ha rv
    exact ⟨_, .tuple ho hc hd hr, na⟩
  | _, _, _, .dct hs ha, r => by
    cases r
    obtain ⟨_, _, vs, kv, hd⟩ := dk_of I.hok hs
    obtain ⟨as, hr, na⟩ := Rpk.reads M I ha kv
    exact ⟨_, reads_dictOf (knd := mixKind X.prog X.w) (fun k key e => key_reads k key e) hd hr, by simp only [List.mem_cons, not_or]; exact ⟨fun e => not_mods M I hs e.symm, na⟩⟩
theorem Rps.reads (M : Mods X.base) (I : Inv X pins σ H s) : ∀ {vs : List V} {ds : List D} {us : List Value}, Rps X.K H vs ds → Vals vs us → ∃ as, ReadsAll s.heap us ds as ∧ sysModules ∉ as
  | _, _, _, .nil, r => by cases r; exact ⟨_, .nil, by simp⟩
  | _, _, _, .cons h a, r => by
    cases r with
    | cons r1 r2 =>
      obtain ⟨as, h1, n1⟩ := Rp.reads M I h r1
      obtain ⟨bs, h2, n2⟩ := Rps.reads M I a r2
      exact ⟨_, .cons h1 h2, by simp [n1, n2]⟩
theorem Rpk.reads (M : Mods X.base) (I : Inv X pins σ H s) : ∀ {vs : List (Key × V)} {ds : List (D × D)} {us : List (Key × Value)}, Rpk X.K H vs ds → KV vs us → ∃ as, PairsRead s.heap kD us ds as ∧ sysModules ∉ as
  | _, _, _, .nil, r => by cases r; exact ⟨_, .nil, by simp⟩
  | _, _, us, .cons (k := k) h a, r => by
    cases r with
    | @cons _ q _ _ r1 r2 =>
      obtain ⟨e1, r1⟩ := r1
      obtain ⟨k', u⟩ := q
      cases e1
      obtain ⟨as, h1, n1⟩ := Rp.reads M I h r1
      obtain ⟨bs, h2, n2⟩ := Rpk.reads M I a r2
      exact ⟨_, .cons h1 h2, by simp [n1, n2]⟩
end
def rShowX (K : PySem.W.Frag) : List V → Hp → VK → Prop := fun vs H Q =>
  ∃ (v : V) (d : PyData), vs = [v] ∧ Rp K H v d ∧ d.showable = true ∧ d.depth ≤ 40 ∧ d.shown.length ≤ sizeLine ∧ Q (.str d.shown) H
theorem call_showX (M : Mods X.base) (gd : X.A.guards = some []) (un : X.A.units + 64 < cLine) : CallR X (.builtin "repr") (rShowX X.K) := by
  intro pins s σ H xs us Q I rel want
  obtain ⟨v, d, rfl, dp, sh, dep, len, q⟩ := want
  obtain ⟨u, rfl, ru⟩ := vals1 rel
  have gen : ∀ p, u = .ref p → wpAny (model X.prog X.w) X.A (call (.builtin "repr") [u]) (EP X pins σ Q) X.xe s := by
    rintro p rfl
    obtain ⟨as, rd, na⟩ := Rp.reads M I dp ru
    refine repr_of_reads' rd sh (fun _ => na) gd (by omega) (fun _ _ e => e) (fun h' u tk keep => ?_) len
    exact ⟨.str _, H, I.kept keep, ⟨_, rfl⟩, q⟩
  cases dp with
  | non => cases ru; exact PySem.P.repr_of_none ⟨.str _, H, I.tok _, ⟨_, rfl⟩, q⟩
  | bl b => cases ru; exact PySem.P.repr_of_bool ⟨.str _, H, I.tok _, ⟨_, rfl⟩, q⟩
  | int i => obtain ⟨t, rfl⟩ := ru; exact PySem.P.repr_of_int (by simpa [PyData.showable] using sh) ⟨.str _, H, I.tok _, ⟨_, rfl⟩, q⟩
  | str x => obtain ⟨t, rfl⟩ := ru; exact PySem.P.repr_of_str ⟨.str _, H, I.tok _, ⟨_, rfl⟩, q⟩ len
  | lst _ _ => exact gen _ ru
  | tup _ _ => exact gen _ ru
  | dct _ _ => exact gen _ ru
end
section
variable {X : Cx} {k : Nat} {e : Expr} {pos p : Pos} {fr : FA}
def gReprX : D → (Out → Prop) → Prop := fun d k => (d.showable = true ∧ d.depth ≤ 40 ∧ d.shown.length ≤ sizeLine) ∧ k (.val (.str d.shown))
theorem xe_reprX (M : Mods X.base) (gd : X.A.guards = some []) (hr : Room k X.A) (hg : Gl X "repr") (hm : X.mg "repr" = none) (ha : TrA X [e] fr) (he : starEach [e] X.env = (false, eval e X.env) :: starEach [] X.env := by rfl) : TrE X (.Call (.Name "repr" p) [e] [] pos) (fB (g1 gReprX) fr) := by
  refine xe_callB (call_showX M gd hr.units) (fun G H vs ds s pr Q k o h => ?_) hg hm (by decide +kernel) ha (he := he)
  obtain ⟨d, rfl, ⟨h1, h3, h4⟩, h5⟩ := g1_of h
  obtain ⟨v, rfl, hv⟩ := pair1 pr
  exact ⟨v, d, rfl, hv.all s, h1, h3, h4, o.val _ _ (.str _) h5⟩
end
end Tr
set_option Elab.async false
set_option linter.all false
set_option maxRecDepth 100000
namespace Tr
open PySem PySem.Spec PyProof.Rows L2 Evl Kc Kz Kx ClX
def sParL (i j : Nat) (fa fb : FE) : FS := fun ρ N x => fa ρ (fun a ρ1 => match a with
  | .own false (.list ds) => fb ρ1 (fun b ρ2 => fz b fun b' => putK i (.own false (.list ds)) ρ2 fun ρ3 => putK j b' ρ3 N.nx) x
  | _ => False) x
end Tr
set_option Elab.async false
set_option linter.all false
set_option maxRecDepth 100000
set_option maxHeartbeats 4000000
namespace KA
open PySem PySem.Spec PyProof.Rows L2 Evl Kc Kz Kx Tr Mg K23 K22 K27 K24
def F_dueX : FD := fun as k _ => ∃ (rows : List Mg.Row) (d : D), as = [.dat (flD rows), .dat d] ∧ rows.length ≤ 20 ∧ (∀ r ∈ rows, three r.2) ∧ GivenOk d ∧ k (.own false (.list (dueL rows d)))
def F_givenX : FD := fun as k _ => ∃ rows : List Mg.Row, as = [.pot true, .dat (flD rows)] ∧ rows.length ≤ 9 ∧ (∀ r ∈ rows, three r.2) ∧ ∀ vs : List (List D), vs.length ≤ 42 → (∀ v ∈ vs, VerOk 30 rows v) → k (.own false (tups vs))
/-- a tree that can be shown and compared -/
def Lay (d : D) : Prop := d.canLay0 = true ∧ d.depth ≤ 10 ∧ d.showable = true ∧ wt d ≤ 4000000
def ShowX (d : D) : Prop := d.showable = true ∧ d.depth ≤ 40 ∧ d.shown.length ≤ sizeLine
/-- what is given to known_versions -/
def GvOk (d : D) : Prop := GivenOk d ∧ (Lay d ∨ (∃ es, d = .dict es) ∧ ShowX d)
def F_spoiltX : FD := fun as k _ => ∃ (rows : List Mg.Row) (vs : List (List D)), as = [.pot true, .dat (tups vs)] ∧ rows.length ≤ 9 ∧ vs.length ≤ 42 ∧ (∀ v ∈ vs, VerOk 30 rows v) ∧ (∀ d, GvOk d → k (.dat d)) ∧ ∀ ds, GvOk (.list ds) → k (.own false (.list ds))
def fb_law (C : Addr) (D_InvalidVersions : Addr) : FS := (sCons (sFor (iR1 (fCons (fB (g2 gMax2) (fCons (fC (.dat (.int (1)))) (fCons (fB (g2 gMin2) (fCons (fC (.dat (.int (5)))) (fCons (fScrLen (fVar 0)) fNil))) fNil))) fNil)) (gN 1) (sCons (sSet 2 (fCall 2 F_pot (fCons (fVar 0) (fCons (fVar 1) fNil)))) (sCons (sSet 3 (fCall 1 F_somef (fCons (fVar 2) fNil))) (sCons (sSet 4 (fMake C "rows" 1 F_init (fCons (fFrz 3) fNil))) (sCons (sSet 5 (fSl (fCall 2 F_givenX (fCons (fVar 2) (fCons (fFrz 3) fNil))) oNone (oSome (fC (.dat (.int (1))))))) (sCons (sIf (fOr (fTest (f2 gNe (fCall 2 (F_metX C) (fCons (fVar 4) (fCons (f2 gMul (fVar 5) (fC (.dat (.int (40))))) fNil))) (fCall 2 F_dueX (fCons (fFrz 3) (fCons (f2 gMul (fVar 5) (fC (.dat (.int (40))))) fNil))))) (fTest (f2 gNe (fCall 2 (F_metX C) (fCons (fVar 4) (fCons (f2 gMul (fVar 5) (fC (.dat (.int (41))))) fNil))) (fDisp .newl (fCons (fC (.dat (.str "refused"))) (fCons (f1 gNeg (fC (.dat (.int (1))))) fNil)))))) (sRet (fC (.dat (.bool false)))) sNil) (sFor (iR1 (fCons (fC (.dat (.int (4)))) fNil)) (gN 6) (sCons (sSet 7 (fCall 2 F_givenX (fCons (fVar 2) (fCons (fFrz 3) fNil)))) (sCons (sIf (fTest (f2 gEq (fCall 2 F_draw (fCons (fVar 2) (fCons (fC (.dat (.int (2)))) fNil))) (fC (.dat (.int (0)))))) (sSet 7 (fCall 2 F_spoiltX (fCons (fVar 2) (fCons (fFrz 7) fNil)))) sNil) (sCons (sPar 8 9 (fCons (fB (g1 gReprX) (fCons (fFrz 7) fNil)) (fCons (fCall 2 F_dueX (fCons (fFrz 3) (fCons (fFrz 7) fNil))) fNil))) (sCons (sIf (fOr (fTest (f2 (gEqT true) (fB (g1 gReprX) (fCons (fCall 2 (F_metX C) (fCons (fVar 4) (fCons (fFrz 7) fNil))) fNil)) (fB (g1 gReprX) (fCons (fFrz 9) fNil)))) (fTest (f2 (gEqT true) (fB (g1 gReprX) (fCons (fFrz 7) fNil)) (fVar 8)))) (sRet (fC (.dat (.bool false)))) sNil) (sIf (fTest (f2 gEq (f2 gIx (fFrz 9) (fC (.dat (.int (0))))) (fC (.dat (.str "told"))))) (sCons (sExpr (fApN (fCall 2 (F_knownX C D_InvalidVersions) (fSwp (fCons (fFrz 7) (fCons (fVar 4) fNil)))))) (sCons (sIf (fOr (fTest (f2 (gEqT true) (fB (g1 gReprX) (fCons (fCall 2 (F_metX C) (fCons (fVar 4) (fCons (fB (g1 gTuple) (fCons (fFrz 7) fNil)) fNil))) fNil)) (fB (g1 gReprX) (fCons (fFrz 9) fNil)))) (fTest (f2 (gEqT true) (fB (g1 gReprX) (fCons (fFrz 7) fNil)) (fVar 8)))) (sRet (fC (.dat (.bool false)))) sNil) (sCons (sParL 10 11 (fB (g1 gList) (fCons (fFrz 7) fNil)) (fCall 2 F_draw (fCons (fVar 2) (fCons (fB (g1 gLen) (fCons (fFrz 7) fNil)) fNil)))) (sCons (sIf (fTest (f2 gNe (fCall 2 (F_knownX C D_InvalidVersions) (fCons (fVar 4) (fCons (fVar 10) fNil))) (f2 gIx (fFrz 9) (fC (.dat (.int (1))))))) (sRet (fC (.dat (.bool false)))) sNil) (sCons (sPutL 10 11 (fC (.dat (.none)))) (sCons (sIf (fTest (f2 gNe (fCall 2 (F_metX C) (fCons (fVar 4) (fCons (fVar 10) fNil))) (fDisp .newl (fCons (fC (.dat (.str "refused"))) (fCons (fFrz 11) fNil))))) (sRet (fC (.dat (.bool false)))) sNil) (sCons (sSet 12 (f2 gAdd (fB (g1 gList) (fCons (fFrz 7) fNil)) (fB (g1 gList) (fCons (fSl (fFrz 7) oNone (oSome (fC (.dat (.int (1)))))) fNil)))) (sIf (fAnd (fTest (f2 gLt (fB (g1 gLen) (fCons (fFrz 7) fNil)) (fC (.dat (.int (40)))))) (fTest (f2 gNe (fCall 2 (F_metX C) (fCons (fVar 4) (fCons (fFrz 12) fNil))) (fDisp .newl (fCons (fC (.dat (.str "told"))) (fCons (fFrz 12) fNil)))))) (sRet (fC (.dat (.bool false)))) sNil)))))))) sNil)))))))))))) (sRet (fC (.dat (.bool true)))))
end KA
set_option Elab.async false
set_option linter.all false
set_option maxRecDepth 100000
namespace KA
open PySem PySem.Spec PyProof.Rows L2 Evl Kc Kz Kx Tr Mg K23 K22 K27 K24
/-- what a judged version is -/
theorem value_ok {k : Str} {d : D} (t : three k) (h : valueB k d = true) : ∃ n, ValOk n k d := by
  unfold valueB at h
  by_cases c : k = "counter"
  · rw [if_pos c] at h
    cases d <;> first | cases h | skip
    rename_i i
    exact ⟨i.natAbs, c, Nat.lt_two_pow_self⟩
  · rw [if_neg c] at h
    cases d <;> first | cases h | skip
    exact ⟨0, c, h⟩
theorem values_ok : ∀ {rows : List Mg.Row} {ds : List D}, (∀ r ∈ rows, three r.2) → valuesB rows ds = true → ∃ n, VerOk n rows ds
  | [], [], _, _ => ⟨0, .nil⟩
  | [], _ :: _, _, told => nomatch told
  | _ :: _, [], _, told => nomatch told
  | r :: rs, d :: ds, t, h => by
    have h : (valueB r.2 d && valuesB rs ds) = true := h
    rw [Bool.and_eq_true] at h
    obtain ⟨n, v⟩ := value_ok (t r List.mem_cons_self) h.1
    obtain ⟨m, w⟩ := values_ok (fun q hq => t q (List.mem_cons_of_mem _ hq)) h.2
    exact ⟨max n m, .cons (v.up (Nat.le_max_left _ _)) (w.up (Nat.le_max_right _ _))⟩
theorem version_ok {rows : List Mg.Row} {d : D} (t : ∀ r ∈ rows, three r.2) (h : versionB rows d = true) : ∃ v n, d = .tuple v ∧ VerOk n rows v := by
  cases d with
  | tuple v =>
    obtain ⟨n, w⟩ := values_ok t h
    exact ⟨v, n, rfl, w⟩
  | _ => cases h
theorem colA_snoc (ds : List D) (d : D) (j : Nat) : colA (ds ++ [d]) j = colA ds j ++ ((labs (tupL d))[j]?).toList := by
  unfold colA
  exact fm_snoc
abbrev stN (C : Addr) (rows : List Mg.Row) (d : D) (p : Addr) (c3 c4 c5 c6 : Option AV) : S := [some (schO C rows), some (.dat d), some (.raw (.ref p)), c3, c4, c5, c6, none]
end KA
set_option Elab.async false
set_option linter.all false
set_option maxRecDepth 100000
namespace KA
open PySem PySem.Spec PyProof.Rows L2 Evl Kc Kz Kx Tr Mg K23 K22 K27 K24
theorem getD_at {ds : List D} {i : Nat} {d : D} (h : ds[i]? = some d) : ds.getD i .none = d := by rw [List.getD_eq_getElem?_getD, h]; rfl
end KA
set_option Elab.async false
set_option linter.all false
set_option maxRecDepth 100000
namespace KA
open PySem PySem.Spec PyProof.Rows L2 Evl Kc Kz Kx Tr Mg K23 K22 K27 K24
/-- the first m are right -/
theorem right_upto {rows : List Mg.Row} {ds : List D} {m : Nat} (ht : ∀ r ∈ rows, three r.2) (h : ∀ i, i < m → versionB rows (ds.getD i .none) = true) : ∃ vs : List (List D), ds.take m = vs.map PyData.tuple ∧ ∀ v ∈ vs, ∃ n, VerOk n rows v := by
  induction m with
  | zero => exact ⟨[], rfl, fun v hv => nomatch hv⟩
  | succ m ih =>
    obtain ⟨vs, e, w⟩ := ih fun i hi => h i (by omega)
    cases z : ds[m]? with
    | none =>
      refine ⟨vs, ?_, w⟩
      rw [List.take_add_one, z, Option.toList_none, List.append_nil, e]
    | some d =>
      have hm := h m (Nat.lt_succ_self m)
      rw [getD_at z] at hm
      obtain ⟨v, n, rfl, vo⟩ := version_ok ht hm
      refine ⟨vs ++ [v], ?_, fun u hu => ?_⟩
      · rw [List.take_add_one, z, e, List.map_append]
        rfl
      · rcases List.mem_append.mp hu with q | q
        · exact w u q
        · cases List.mem_singleton.mp q
          exact ⟨n, vo⟩
theorem not_bad {rows : List Mg.Row} {ds : List D} {i : Nat} (h : badAt rows ds i = false) : versionB rows (ds.getD i .none) = true := by
  unfold badAt at h
  rw [Bool.or_eq_false_iff] at h
  simpa using h.1
end KA
set_option Elab.async false
set_option linter.all false
set_option maxRecDepth 100000
namespace KA
open PySem PySem.Spec PyProof.Rows L2 Evl Kc Kz Kx Tr Mg K23 K22 K27 K24
abbrev RetI : FS := sRet (fDisp .newl (fCons (fC (.dat (.str "refused"))) (fCons (fFrz 2) fNil)))
end KA
set_option Elab.async false
set_option linter.all false
set_option maxRecDepth 100000
namespace KA
open PySem PySem.Spec PyProof.Rows L2 Evl Kc Kz Kx Tr Mg K23 K22 K27 K24
end KA
set_option Elab.async false
set_option linter.all false
set_option maxRecDepth 100000
namespace KA
open PySem PySem.Spec PyProof.Rows L2 Evl Kc Kz Kx Tr Mg K23 K22 K27 K24
/-- a value without parts -/
def FlOk (d : D) : Prop := d.canLay0 = true ∧ d.depth = 0 ∧ d.showable = true ∧ wt d ≤ 1922 ∧ shortD d
theorem fl_val {n : Nat} {k : Str} {d : D} (hn : n ≤ 1900) (h : ValOk n k d) : FlOk d := by
  obtain ⟨a, b, _⟩ := val_lay h
  obtain ⟨c, _, e⟩ := val_show hn h
  refine ⟨a, b, c, e, ?_⟩
  cases d <;> first | exact trivial | skip
  have := (word_parts h.2).2.1
  show _ ≤ 1000
  omega
theorem fl_int (i : Int) (h : i.natAbs < 2 ^ 100) : FlOk (.int i) := fl_val (n := 100) (k := "counter") (by decide) ⟨rfl, h⟩
theorem fl_bool (b : Bool) : FlOk (.bool b) := ⟨by simp [PyData.canLay0], by simp [PyData.depth], by simp [PyData.showable], by simp [wt], trivial⟩
theorem fl_all : ∀ {us : List D}, (∀ d ∈ us, FlOk d) → PyData.canLayAll0 us = true ∧ PyData.depthAll us = 0 ∧ PyData.showableAll us = true ∧ wts us ≤ us.length * 1924
  | [], _ => ⟨by simp [PyData.canLayAll0], by simp [PyData.depthAll], by simp [PyData.showableAll], by simp [wts]⟩
  | d :: us, h => by
    obtain ⟨a, b, c, e⟩ := fl_all fun z hz => h z (List.mem_cons_of_mem _ hz)
    obtain ⟨a', b', c', e', _⟩ := h d List.mem_cons_self
    refine ⟨by simp only [PyData.canLayAll0, a, a', Bool.and_self], by simp only [PyData.depthAll, b, b', Nat.max_self], by simp only [PyData.showableAll, c, c', Bool.and_self], ?_⟩
    simp only [wts, List.length_cons]
    omega
/-- an item of what is given -/
def ElOk (d : D) : Prop := d.canLay0 = true ∧ d.depth ≤ 3 ∧ d.showable = true ∧ wt d ≤ 30000 ∧ shortVs d ∧ ∀ us, d = .tuple us → us.length ≤ 1000
theorem el_tup {us : List D} (l : us.length ≤ 12) (h : ∀ d ∈ us, FlOk d) : ElOk (.tuple us) := by
  obtain ⟨a, b, c, e⟩ := fl_all h
  refine ⟨by simp only [PyData.canLay0, a], by simp only [PyData.depth, b]; decide, by simp only [PyData.showable, c], by simp only [wt]; omega, fun d hd => (h d hd).2.2.2.2, fun ws e => ?_⟩
  cases e
  omega
theorem el_list {us : List D} (l : us.length ≤ 12) (h : ∀ d ∈ us, FlOk d) : ElOk (.list us) := by
  obtain ⟨a, b, c, e⟩ := fl_all h
  exact ⟨by simp only [PyData.canLay0, a], by simp only [PyData.depth, b]; decide, by simp only [PyData.showable, c], by simp only [wt]; omega, trivial, fun ws e => by cases e⟩
theorem el_none : ElOk .none := ⟨by simp [PyData.canLay0], by simp [PyData.depth], by simp [PyData.showable], by simp [wt], trivial, fun ws e => by cases e⟩
theorem el_all : ∀ {ds : List D}, (∀ d ∈ ds, ElOk d) → PyData.canLayAll0 ds = true ∧ PyData.depthAll ds ≤ 3 ∧ PyData.showableAll ds = true ∧ wts ds ≤ ds.length * 30002
  | [], _ => ⟨by simp [PyData.canLayAll0], by simp [PyData.depthAll], by simp [PyData.showableAll], by simp [wts]⟩
  | d :: ds, h => by
    obtain ⟨a, b, c, e⟩ := el_all fun z hz => h z (List.mem_cons_of_mem _ hz)
    obtain ⟨a', b', c', e', _⟩ := h d List.mem_cons_self
    refine ⟨by simp only [PyData.canLayAll0, a, a', Bool.and_self], by simp only [PyData.depthAll]; exact Nat.max_le.mpr ⟨b', b⟩, by simp only [PyData.showableAll, c, c', Bool.and_self], ?_⟩
    simp only [wts, List.length_cons]
    omega
theorem lay_list {ds : List D} (l : ds.length ≤ 100) (h : ∀ d ∈ ds, ElOk d) : Lay (.list ds) := by
  obtain ⟨a, b, c, e⟩ := el_all h
  exact ⟨by simp only [PyData.canLay0, a], by simp only [PyData.depth]; omega, by simp only [PyData.showable, c], by simp only [wt]; omega⟩
theorem lay_tup {ds : List D} (l : ds.length ≤ 100) (h : ∀ d ∈ ds, ElOk d) : Lay (.tuple ds) := by
  obtain ⟨a, b, c, e⟩ := el_all h
  exact ⟨by simp only [PyData.canLay0, a], by simp only [PyData.depth]; omega, by simp only [PyData.showable, c], by simp only [wt]; omega⟩
theorem given_seq {d : D} {ds : List D} (hd : d = .list ds ∨ d = .tuple ds) (h : ∀ e ∈ ds, ElOk e) : GivenOk d := by
  refine ⟨fun es e z hz => ?_, fun z e => ?_⟩
  · rcases hd with rfl | rfl <;> (cases Option.some.inj e; exact ⟨(h z hz).2.2.2.2.1, (h z hz).2.2.2.2.2⟩)
  · rcases hd with rfl | rfl <;> cases e
theorem gv_list {ds : List D} (l : ds.length ≤ 100) (h : ∀ d ∈ ds, ElOk d) : GvOk (.list ds) := ⟨given_seq (.inl rfl) h, .inl (lay_list l h)⟩
theorem el_fl {d : D} (f : flatD d = true) (h : FlOk d) : ElOk d := by
  obtain ⟨a, b, c, e, s⟩ := h
  refine ⟨a, by omega, c, by omega, ?_, fun us z => ?_⟩
  · cases d <;> first | exact trivial | cases f
  · subst z
    cases f
theorem fl_str {z : Str} (l : z.length ≤ 12) (h : PyData.canLay0 (.str z) = true) : FlOk (.str z) := ⟨h, by simp [PyData.depth], by simp [PyData.showable], by simp only [wt]; omega, Nat.le_trans l (by decide)⟩
theorem ver_fl {n : Nat} (hn : n ≤ 1900) : ∀ {rows : List Mg.Row} {v : List D}, VerOk n rows v → ∀ d ∈ v, FlOk d
  | _, _, .nil => nofun
  | _, _, .cons h t => fun d hd => by
    rcases List.mem_cons.mp hd with rfl | q
    · exact fl_val hn h
    · exact ver_fl hn t d q
theorem el_ver {rows : List Mg.Row} {v : List D} (hr : rows.length ≤ 9) (h : VerOk 30 rows v) : ElOk (.tuple v) := el_tup (by have := h.len; omega) (ver_fl (by decide) h)
theorem el_vers {rows : List Mg.Row} {vs : List (List D)} (hr : rows.length ≤ 9) (h : ∀ v ∈ vs, VerOk 30 rows v) : ∀ d ∈ vs.map PyData.tuple, ElOk d := fun d hd => by
  obtain ⟨v, hv, rfl⟩ := List.mem_map.mp hd
  exact el_ver hr (h v hv)
theorem lay_sh {d : D} (h : Lay d) : SeqAt.shaped d = true := by
  show (d.canLay0 && decide (d.depth ≤ 64)) = true
  rw [h.1, decide_eq_true (Nat.le_trans h.2.1 (by decide))]
  rfl
theorem lay_show {d : D} (h : Lay d) : ShowX d := ⟨h.2.2.1, Nat.le_trans h.2.1 (by decide), Nat.le_trans (shown_le d h.1 h.2.2.1) (Nat.le_trans h.2.2.2 (by decide))⟩
theorem gv_show {d : D} (h : GvOk d) : ShowX d := by
  rcases h.2 with q | q
  · exact lay_show q
  · exact q.2
end KA
set_option Elab.async false
set_option linter.all false
set_option maxRecDepth 100000
namespace KA
open PySem PySem.Spec PyProof.Rows L2 Evl Kc Kz Kx Tr Mg K23 K22 K27 K24
/-- the odd ones in the place of a version -/
def oddL (v : List D) (n : Nat) : List D := [.none, .list v, .tuple (Tr.cutD v (some 1) none), .tuple (v ++ [.int 0]), .tuple (Tr.cutD v none (some (n : Int)) ++ [.bool true] ++ Tr.cutD v (some ((n : Int) + 1)) none)]
theorem cut_mem {v : List D} {lo hi : Option Int} {d : D} (h : d ∈ Tr.cutD v lo hi) : d ∈ v := List.mem_of_mem_drop (List.mem_of_mem_take h)
theorem cut_le {v : List D} {lo hi : Option Int} : (Tr.cutD v lo hi).length ≤ v.length := by
  unfold Tr.cutD
  simp only [List.length_take, List.length_drop]
  omega
theorem odd_el {v : List D} {n : Nat} (l : v.length ≤ 9) (hn : n < v.length) (h : ∀ d ∈ v, FlOk d) : ∀ d ∈ oddL v n, ElOk d := by
  have c1 := cut_to (ds := v) (n := n) (by omega)
  have c2 := cut_from (ds := v) (n := n + 1) (by omega)
  intro d hd
  unfold oddL at hd
  simp only [List.mem_cons, List.not_mem_nil, or_false] at hd
  rcases hd with rfl | rfl | rfl | rfl | rfl
  · exact el_none
  · exact el_list (by omega) h
  · exact el_tup (Nat.le_trans cut_le (by omega)) fun d hd => h d (cut_mem hd)
  · refine el_tup (by rw [List.length_append]; show _ + 1 ≤ 12; omega) fun d hd => ?_
    rcases List.mem_append.mp hd with q | q
    · exact h d q
    · rw [List.mem_singleton.mp q]
      exact fl_int _ (by decide)
  · refine el_tup ?_ fun d hd => ?_
    · rw [c1, show Tr.cutD v (some ((n : Int) + 1)) none = v.drop (n + 1) from c2, List.length_append, List.length_append, List.length_take, List.length_drop]
      show min n v.length + 1 + _ ≤ 12
      omega
    · rcases List.mem_append.mp hd with q | q
      · rcases List.mem_append.mp q with y | y
        · exact h d (cut_mem y)
        · rw [List.mem_singleton.mp y]
          exact fl_bool _
      · exact h d (cut_mem q)
abbrev Odd5 : FE := f2 gIx (fDisp .newl (fCons (fC (.dat (.none))) (fCons (fB (g1 gList) (fCons (fVar 3) fNil)) (fCons (fSl (fVar 3) (oSome (fC (.dat (.int (1))))) oNone) (fCons (f2 gAdd (fVar 3) (fDisp .newt (fCons (fC (.dat (.int (0)))) fNil))) (fCons (f2 gAdd (f2 gAdd (fSl (fVar 3) oNone (oSome (fVar 4))) (fDisp .newt (fCons (fC (.dat (.bool true))) fNil))) (fSl (fVar 3) (oSome (f2 gAdd (fVar 4) (fC (.dat (.int (1)))))) oNone)) fNil)))))) (fCall 2 F_draw (fCons (fVar 0) (fCons (fC (.dat (.int (5)))) fNil)))
abbrev stS (vs : List (List D)) (m : Nat) (v : List D) (n : Nat) (c : Option AV) : S := [some (.pot true), some (.dat (tups vs)), some (.dat (.int m)), some (.dat (.tuple v)), some (.dat (.int n)), c]
theorem odd_run {vs : List (List D)} {m n : Nat} {v : List D} {R : FS} {N : EndsT} {x : KX} (l : v.length ≤ 9) (hn : n < v.length) (hk : ∀ d ∈ oddL v n, R (stS vs m v n (some (.dat d))) N x) : sCons (sSet 5 Odd5) R (stS vs m v n none) N x := by
  have l1 := cut_le (v := v) (lo := none) (hi := some (n : Int))
  have l2 := cut_le (v := v) (lo := some ((n : Int) + 1)) (hi := none)
  refine ⟨sz (by simp), ?_, sz (by simp), ?_, ?_, sz (by simp), ?_⟩
  · show v.length + 1 ≤ _
    exact Nat.le_of_lt (small1000 (by omega))
  · show (Tr.cutD v none (some (n : Int))).length + 1 ≤ _
    exact Nat.le_of_lt (small1000 (by omega))
  · show (Tr.cutD v none (some (n : Int)) ++ [PyData.bool true]).length + (Tr.cutD v (some ((n : Int) + 1)) none).length ≤ _
    rw [List.length_append]
    show _ + 1 + _ ≤ _
    exact Nat.le_of_lt (small1000 (by omega))
  refine ⟨Nat.le_refl 1, rfl, 5, rfl, by decide, by decide, fun s s0 s1 => ⟨.inl rfl, ?_⟩⟩
  obtain ⟨i, d, rfl, hd, e⟩ := atI_get (xs := oddL v n) s0 s1
  exact ⟨d, e, hk d (List.mem_of_getElem? hd)⟩
abbrev Mend : FS := sRet (f2 gAdd (f2 gAdd (fSl (fVar 1) oNone (oSome (fVar 2))) (fDisp .newl (fCons (fFrz 5) fNil))) (fSl (fVar 1) (oSome (f2 gAdd (fVar 2) (fC (.dat (.int (1)))))) oNone))
theorem mend_run {rows : List Mg.Row} {vs : List (List D)} {m n : Nat} {v : List D} {d : D} {N : EndsT} {x : KX} (hr : rows.length ≤ 9) (lv : vs.length ≤ 42) (vk : ∀ v ∈ vs, VerOk 30 rows v) (hd : ElOk d) (hk : ∀ ds ρ, GvOk (.list ds) → N.rt (.own false (.list ds)) ρ) : Mend (stS vs m v n (some (.dat d))) N x := by
  have l1 := cut_le (v := vs.map PyData.tuple) (lo := none) (hi := some (m : Int))
  have l2 := cut_le (v := vs.map PyData.tuple) (lo := some ((m : Int) + 1)) (hi := none)
  rw [List.length_map] at l1 l2
  have el := el_vers hr vk
  refine ⟨sz (by simp), ?_, ?_, hk _ _ (gv_list ?_ ?_)⟩
  · show (Tr.cutD (vs.map PyData.tuple) none (some (m : Int))).length + 1 ≤ _
    exact Nat.le_of_lt (small1000 (by omega))
  · show (Tr.cutD (vs.map PyData.tuple) none (some (m : Int)) ++ [d]).length + (Tr.cutD (vs.map PyData.tuple) (some ((m : Int) + 1)) none).length ≤ _
    rw [List.length_append]
    show _ + 1 + _ ≤ _
    exact Nat.le_of_lt (small1000 (by omega))
  · rw [List.length_append, List.length_append]
    show _ + 1 + _ ≤ _
    omega
  · intro e he
    rcases List.mem_append.mp he with q | q
    · rcases List.mem_append.mp q with y | y
      · exact el e (cut_mem y)
      · rw [List.mem_singleton.mp y]
        exact hd
    · exact el e (cut_mem q)
theorem tail3 {rows : List Mg.Row} {vs : List (List D)} {m n : Nat} {v : List D} {N : EndsT} {x : KX} (hr : rows.length ≤ 9) (lv : vs.length ≤ 42) (vk : ∀ v ∈ vs, VerOk 30 rows v) (vo : VerOk 30 rows v) (hn : n < v.length) (hk : ∀ ds ρ, GvOk (.list ds) → N.rt (.own false (.list ds)) ρ) :
    sCons (sSet 5 Odd5) Mend (stS vs m v n none) N x :=
  odd_run (m := m) (v := v) (n := n) (by have := vo.len; omega) hn fun d hd => mend_run hr lv vk (odd_el (by have := vo.len; omega) hn (ver_fl (by decide) vo) d hd) hk
theorem tail2 {rows : List Mg.Row} {vs : List (List D)} {m : Nat} {v : List D} {N : EndsT} {x : KX} (hr : rows.length ≤ 9) (r0 : 0 < rows.length) (lv : vs.length ≤ 42) (vk : ∀ v ∈ vs, VerOk 30 rows v) (vo : VerOk 30 rows v) (hk : ∀ ds ρ, GvOk (.list ds) → N.rt (.own false (.list ds)) ρ) :
    sCons (sSet 4 (fCall 2 F_draw (fCons (fVar 0) (fCons (fB (g1 gLen) (fCons (fVar 3) fNil)) fNil)))) (sCons (sSet 5 Odd5) Mend) [some (.pot true), some (.dat (tups vs)), some (.dat (.int m)), some (.dat (.tuple v)), none, none] N x := by
  have vl := vo.len
  refine ⟨Nat.le_refl 1, rfl, (v.length : Int), rfl, by omega, by omega, fun t t0 t1 => ⟨.inl rfl, ?_⟩⟩
  obtain ⟨n, rfl⟩ : ∃ n : Nat, t = n := ⟨t.toNat, by omega⟩
  exact tail3 hr lv vk vo (by omega) hk
theorem tail_run {rows : List Mg.Row} {vs : List (List D)} {N : EndsT} {x : KX} (hr : rows.length ≤ 9) (r0 : 0 < rows.length) (l0 : 0 < vs.length) (lv : vs.length ≤ 42) (vk : ∀ v ∈ vs, VerOk 30 rows v) (hk : ∀ ds ρ, GvOk (.list ds) → N.rt (.own false (.list ds)) ρ) :
    sCons (sSet 2 (fCall 2 F_draw (fCons (fVar 0) (fCons (fB (g1 gLen) (fCons (fVar 1) fNil)) fNil)))) (sCons (sSet 3 (f2 gIx (fVar 1) (fVar 2))) (sCons (sSet 4 (fCall 2 F_draw (fCons (fVar 0) (fCons (fB (g1 gLen) (fCons (fVar 3) fNil)) fNil)))) (sCons (sSet 5 Odd5) Mend))) (start0 6 [.pot true, .dat (tups vs)]) N x := by
  have ll : ((vs.map PyData.tuple).length : Int) = vs.length := by rw [List.length_map]
  refine ⟨Nat.le_refl 1, rfl, ((vs.map PyData.tuple).length : Int), rfl, by omega, by omega, fun s s0 s1 => ⟨.inl rfl, ?_⟩⟩
  obtain ⟨m, d, rfl, hd, e⟩ := atI_get s0 s1
  obtain ⟨v, hv, rfl⟩ := tup_get hd
  exact ⟨_, e, tail2 hr r0 lv vk (vk v (List.mem_of_getElem? hv)) hk⟩
end KA
set_option Elab.async false
set_option linter.all false
set_option maxRecDepth 100000
namespace KA
open PySem PySem.Spec PyProof.Rows L2 Evl Kc Kz Kx Tr Mg K23 K22 K27 K24
theorem eqT_same {z : Str} {P Q : Prop} (h : Q) : if (true ^^ decide (z = z)) = true then P else Q := by
  rw [decide_eq_true rfl]
  exact h
theorem ne_same {d : D} {P Q : Prop} (c : d.canLay0 = true) (h : Q) : if (!eqD d d) = true then P else Q := by
  rw [show eqD d d = true from SeqAt.eqv_refl d c]
  exact h
/-- told: all versions are right and no label field has more than eight values -/
structure Told (rows : List Mg.Row) (ds : List D) : Prop where
  l1 : 1 ≤ ds.length
  l40 : ds.length ≤ 40
  ok : ∀ i, i < ds.length → badAt rows ds i = false
theorem first_ok {rows : List Mg.Row} {ds : List D} (h : firstBad rows ds = none) : ∀ i, i < ds.length → badAt rows ds i = false := fun i hi => by
  unfold firstBad at h
  rw [List.find?_eq_none] at h
  have hb := h i (List.mem_range.mpr hi)
  simpa using hb
theorem due_cases (rows : List Mg.Row) (d : D) : (∃ i : Int, i.natAbs ≤ 40 ∧ dueL rows d = refused i) ∨ ∃ ds, seqL d = some ds ∧ Told rows ds ∧ dueL rows d = [.str "told", .list ds] := by
  unfold dueL
  cases e : seqL d with
  | none => exact .inl ⟨-1, by decide, rfl⟩
  | some ds =>
    by_cases l : 1 ≤ ds.length ∧ ds.length ≤ 40
    · cases f : firstBad rows ds with
      | none => exact .inr ⟨ds, rfl, ⟨l.1, l.2, first_ok f⟩, by show (if _ then _ else _) = _; rw [if_pos l, f]⟩
      | some i =>
        refine .inl ⟨i, ?_, by show (if _ then _ else _) = _; rw [if_pos l, f]⟩
        unfold firstBad at f
        have := List.mem_range.mp (List.mem_of_find?_eq_some f)
        omega
    · exact .inl ⟨-1, by decide, by show (if _ then _ else _) = _; rw [if_neg l]⟩
theorem due_told {rows : List Mg.Row} {d : D} {ds : List D} (e : seqL d = some ds) (t : Told rows ds) : dueL rows d = [.str "told", .list ds] := by
  unfold dueL
  rw [e]
  show (if _ then _ else _) = _
  rw [if_pos ⟨t.l1, t.l40⟩, first_none t.ok]
theorem seq_cases {d : D} {ds : List D} (h : seqL d = some ds) : d = .list ds ∨ d = .tuple ds := by
  cases d <;> first | cases h | skip
  · exact .inl rfl
  · exact .inr rfl
/-- can be compared and shown -/
structure Fit (d : D) : Prop where
  cl : d.canLay0 = true
  sh : SeqAt.shaped d = true
  sx : ShowX d
theorem fit_of {d : D} (a : d.canLay0 = true) (b : d.depth ≤ 30) (c : d.showable = true) (e : wt d ≤ 16000000) : Fit d := by
  refine ⟨a, ?_, c, Nat.le_trans b (by decide), Nat.le_trans (shown_le d a c) (Nat.le_trans e (by decide))⟩
  show (d.canLay0 && decide (d.depth ≤ 64)) = true
  rw [a, decide_eq_true (Nat.le_trans b (by decide))]
  rfl
theorem fit_ref {i : Int} (h : i.natAbs ≤ 40) : Fit (.list (refused i)) := by
  have ly : Lay (.list (refused i)) := lay_list (by show 2 ≤ 100; decide) fun d hd => by
    unfold refused at hd
    simp only [List.mem_cons, List.not_mem_nil, or_false] at hd
    rcases hd with rfl | rfl
    · exact el_fl rfl (fl_str (by decide) (by decide +kernel))
    · exact el_fl rfl (fl_int i (Nat.lt_of_le_of_lt h (by decide)))
  exact fit_of ly.1 (Nat.le_trans ly.2.1 (by decide)) ly.2.2.1 (Nat.le_trans ly.2.2.2 (by decide))
theorem fit_told {ds : List D} (h : Lay (.list ds)) : Fit (.list [.str "told", .list ds]) := by
  obtain ⟨a, b, c, e⟩ := h
  have s : FlOk (.str "told") := fl_str (by decide) (by decide +kernel)
  obtain ⟨sa, sb, sc, se, _⟩ := s
  refine fit_of ?_ ?_ ?_ ?_
  · simp only [PyData.canLay0, PyData.canLayAll0] at a sa ⊢
    simp only [a, sa, Bool.and_self]
  · simp only [PyData.depth, PyData.depthAll] at b sb ⊢
    omega
  · simp only [PyData.showable, PyData.showableAll] at c sc ⊢
    simp only [c, Bool.and_self]
  · simp only [wt, wts] at e se ⊢
    omega
theorem lay_seq {d : D} {ds : List D} (e : seqL d = some ds) (h : GvOk d) : Lay (.list ds) := by
  rcases h.2 with q | ⟨⟨es, rfl⟩, _⟩
  · rcases seq_cases e with rfl | rfl
    · exact q
    · obtain ⟨a, b, c, w⟩ := q
      simp only [PyData.canLay0, PyData.depth, PyData.showable, wt] at a b c w
      exact ⟨by simp only [PyData.canLay0, a], by simp only [PyData.depth]; exact b, by simp only [PyData.showable, c], by simp only [wt]; exact w⟩
  · cases e
theorem due_fit {rows : List Mg.Row} {d : D} (h : GvOk d) : Fit (.list (dueL rows d)) := by
  rcases due_cases rows d with ⟨i, hi, e⟩ | ⟨ds, e, t, ed⟩
  · rw [e]
    exact fit_ref hi
  · rw [ed]
    exact fit_told (lay_seq e h)
theorem given_list {d : D} {ds : List D} (e : seqL d = some ds) (h : GivenOk d) {c : D} (hc : c = .list ds ∨ c = .tuple ds) : GivenOk c := by
  refine ⟨fun es e2 => ?_, fun z e2 => ?_⟩
  · have : es = ds := by rcases hc with rfl | rfl <;> exact (Option.some.inj e2).symm
    subst this
    exact h.1 es e
  · rcases hc with rfl | rfl <;> cases e2
theorem lay_app : ∀ (a b : List D), PyData.canLayAll0 (a ++ b) = (PyData.canLayAll0 a && PyData.canLayAll0 b) ∧ PyData.depthAll (a ++ b) = max (PyData.depthAll a) (PyData.depthAll b) ∧ PyData.showableAll (a ++ b) = (PyData.showableAll a && PyData.showableAll b) ∧ wts (a ++ b) = wts a + wts b
  | [], b => ⟨by simp [PyData.canLayAll0], by simp [PyData.depthAll], by simp [PyData.showableAll], by simp [wts]⟩
  | d :: a, b => by
    obtain ⟨h1, h2, h3, h4⟩ := lay_app a b
    rw [List.cons_append]
    refine ⟨?_, ?_, ?_, ?_⟩
    · simp only [PyData.canLayAll0, h1, Bool.and_assoc]
    · simp only [PyData.depthAll, h2]
      omega
    · simp only [PyData.showableAll, h3, Bool.and_assoc]
    · simp only [wts, h4]
      omega
theorem fit_more {ds : List D} (h : Lay (.list ds)) : Fit (.list [.str "told", .list (ds ++ ds.take 1)]) := by
  cases ds with
  | nil => exact fit_told h
  | cons d0 ds =>
    show Fit (.list [.str "told", .list (d0 :: ds ++ [d0])])
    obtain ⟨a, b, c, e⟩ := h
    have s : FlOk (.str "told") := fl_str (by decide) (by decide +kernel)
    obtain ⟨sa, sb, sc, se, _⟩ := s
    obtain ⟨h1, h2, h3, h4⟩ := lay_app (d0 :: ds) [d0]
    simp only [PyData.canLay0, PyData.canLayAll0, Bool.and_eq_true, Bool.and_true] at a sa h1
    simp only [PyData.depth, PyData.depthAll] at b sb h2
    simp only [PyData.showable, PyData.showableAll, Bool.and_eq_true, Bool.and_true] at c sc h3
    simp only [wt, wts] at e se h4
    refine fit_of ?_ ?_ ?_ ?_
    · simp only [PyData.canLay0, PyData.canLayAll0, h1, a, sa, Bool.and_self]
    · simp only [PyData.depth, PyData.depthAll, h2, sb]
      omega
    · simp only [PyData.showable, PyData.showableAll, h3, c, Bool.and_self]
    · simp only [wt, wts, h4]
      omega
theorem given_more {ds : List D} (h : GivenOk (.list ds)) : GivenOk (.list (ds ++ ds.take 1)) := by
  refine ⟨fun es e2 z hz => ?_, fun z e2 => by cases e2⟩
  cases Option.some.inj e2
  rcases List.mem_append.mp hz with q | q
  · exact h.1 ds rfl z q
  · exact h.1 ds rfl z (List.mem_of_mem_take q)
/-- an item is no version any more -/
theorem due_put {rows : List Mg.Row} {ds : List D} {m : Nat} (t : Told rows ds) (hm : m < ds.length) : dueL rows (.list (ds.set m .none)) = refused m := by
  unfold dueL
  show (if 1 ≤ (ds.set m .none).length ∧ (ds.set m .none).length ≤ 40 then _ else _) = _
  rw [List.length_set, if_pos ⟨t.l1, t.l40⟩, first_some (i := m) (by rw [List.length_set]; exact hm)]
  · unfold badAt
    rw [getD_at (d := .none) (by rw [List.getElem?_set_self hm])]
    rfl
  · intro i hi
    have := t.ok i (by omega)
    unfold badAt at this ⊢
    rw [show (ds.set m PyData.none).getD i .none = ds.getD i .none by rw [List.getD_eq_getElem?_getD, List.getD_eq_getElem?_getD, List.getElem?_set_ne (by omega)], show (ds.set m PyData.none).take (i + 1) = ds.take (i + 1) by rw [List.take_set_of_le (by omega)]]
    exact this
/-- the first one once more -/
theorem told_more {rows : List Mg.Row} {ds : List D} (t : Told rows ds) (h : ds.length < 40) : Told rows (ds ++ ds.take 1) := by
  obtain ⟨d0, ds', rfl⟩ : ∃ d0 ds', ds = d0 :: ds' := by
    cases ds with
    | nil => have := t.l1; cases this
    | cons a b => exact ⟨a, b, rfl⟩
  have e : (d0 :: ds').take 1 = [d0] := rfl
  rw [e]
  refine ⟨by rw [List.length_append]; exact Nat.le_trans t.l1 (Nat.le_add_right _ _), by rw [List.length_append]; exact h, fun i hi => ?_⟩
  rw [List.length_append] at hi
  have hi : i < (d0 :: ds').length + 1 := hi
  by_cases q : i < (d0 :: ds').length
  · have := t.ok i q
    unfold badAt at this ⊢
    rw [show ((d0 :: ds') ++ [d0]).getD i .none = (d0 :: ds').getD i .none by rw [List.getD_eq_getElem?_getD, List.getD_eq_getElem?_getD, List.getElem?_append_left q], List.take_append_of_le_length (by omega)]
    exact this
  · have ei : i = (d0 :: ds').length := by omega
    have first := t.ok 0 t.l1
    have last := t.ok ((d0 :: ds').length - 1) (by have := t.l1; omega)
    unfold badAt at first last ⊢
    rw [Bool.or_eq_false_iff] at first last ⊢
    rw [show (d0 :: ds').length - 1 + 1 = (d0 :: ds').length by have := t.l1; omega, List.take_length] at last
    refine ⟨?_, ?_⟩
    · rw [show ((d0 :: ds') ++ [d0]).getD i .none = d0 by rw [ei, List.getD_eq_getElem?_getD, List.getElem?_append_right (Nat.le_refl _), Nat.sub_self]; rfl]
      exact first.1
    · rw [List.take_of_length_le (by rw [List.length_append, ei]; exact Nat.le_refl _)]
      rw [List.any_eq_false] at last ⊢
      intro j hj
      have := last.2 j hj
      rw [decide_eq_true_eq] at this ⊢
      rw [colA_snoc]
      have e2 : uniq (colA (d0 :: ds') j ++ ((labs (tupL d0))[j]?).toList) = uniq (colA (d0 :: ds') j) := by
        cases z : (labs (tupL d0))[j]? with
        | none => rw [Option.toList_none, List.append_nil]
        | some y =>
          rw [Option.toList_some, uniq_snoc, if_pos]
          unfold colA
          rw [List.filterMap_cons, z]
          first
          | exact (uniq_mem _ _).mpr List.mem_cons_self
          | exact List.mem_cons_self
      rw [e2]
      exact this
theorem tup_told {rows : List Mg.Row} {ds : List D} (ht : ∀ r ∈ rows, three r.2) (t : Told rows ds) : tupDs ds = true := by
  obtain ⟨vs, e, w⟩ := right_upto (m := ds.length) ht fun i hi => not_bad (t.ok i hi)
  rw [List.take_length] at e
  rw [e]
  clear e t
  induction vs with
  | nil => simp [tupDs]
  | cons v vs ih =>
    obtain ⟨n, hv⟩ := w v List.mem_cons_self
    rw [List.map_cons]
    simp only [tupDs]
    rw [ver_tup hv, ih fun u hu => w u (List.mem_cons_of_mem _ hu)]
    rfl
end KA
set_option Elab.async false
set_option linter.all false
set_option maxRecDepth 100000
namespace KA
open PySem PySem.Spec PyProof.Rows L2 Evl Kc Kz Kx Tr Mg K23 K22 K27 K24
abbrev stL (ns : List Int) (C : Addr) (rows : List Mg.Row) (c1 : Option AV) (one : D) (c6 c7 c8 c9 c10 c11 c12 : Option AV) : S := [some (.scr ns), c1, some (.pot false), some (.dat (flD rows)), some (schO C rows), some (.own false one), c6, c7, c8, c9, c10, c11, c12]
/-- what is known of the fields -/
structure Base (rows : List Mg.Row) : Prop where
  r9 : rows.length ≤ 9
  th : ∀ r ∈ rows, three r.2
theorem Base.r20 {rows : List Mg.Row} (h : Base rows) : rows.length ≤ 20 := Nat.le_trans h.r9 (by decide)
section
variable {ns : List Int} {C Dv : Addr} {rows : List Mg.Row} {c1 c6 c7 c8 c9 c10 c11 c12 : Option AV} {one d : D} {ds : List D} {R : FS} {N : EndsT} {x : KX} {m : Nat}
abbrev C1 (C Dv : Addr) : FS := sExpr (fApN (fCall 2 (F_knownX C Dv) (fSwp (fCons (fFrz 7) (fCons (fVar 4) fNil)))))
theorem c1_run (B : Base rows) (g : GivenOk d) (e : seqL d = some ds) (t : Told rows ds) (h : R (stL ns C rows c1 one c6 (some (.dat d)) c8 c9 c10 c11 c12) N x) :
    sCons (C1 C Dv) R (stL ns C rows c1 one c6 (some (.dat d)) c8 c9 c10 c11 c12) N x := by
  refine ⟨Nat.zero_le 1, rfl, rows, d, rfl, B.r20, B.th, g.1, g.2, fun hn => ?_, fun ds' e' => ?_⟩
  · rw [e] at hn
    cases hn
  · rw [e] at e'
    cases e'
    refine ⟨fun no => absurd ⟨t.l1, t.l40⟩ no, fun _ _ => ⟨fun i hi hb _ => ?_, fun _ => ⟨.inl rfl, small1000 (Nat.le_trans t.l40 (by decide)), h⟩⟩⟩
    rw [t.ok i hi] at hb
    cases hb
abbrev C2 (C : Addr) : FS := sIf (fOr (fTest (f2 (gEqT true) (fB (g1 gReprX) (fCons (fCall 2 (F_metX C) (fCons (fVar 4) (fCons (fB (g1 gTuple) (fCons (fFrz 7) fNil)) fNil))) fNil)) (fB (g1 gReprX) (fCons (fFrz 9) fNil)))) (fTest (f2 (gEqT true) (fB (g1 gReprX) (fCons (fFrz 7) fNil)) (fVar 8)))) (sRet (fC (.dat (.bool false)))) sNil
theorem c2_run (B : Base rows) (g : GvOk d) (e : seqL d = some ds) (t : Told rows ds) (h : R (stL ns C rows c1 one c6 (some (.dat d)) (some (.dat (.str d.shown))) (some (.dat (.list [.str "told", .list ds]))) c10 c11 c12) N x) :
    sCons (C2 C) R (stL ns C rows c1 one c6 (some (.dat d)) (some (.dat (.str d.shown))) (some (.dat (.list [.str "told", .list ds]))) c10 c11 c12) N x := by
  have f := (fit_told (lay_seq e g)).sx
  have sx := gv_show g
  have q : dueL rows (.tuple ds) = [.str "told", .list ds] := due_told rfl t
  have gt := given_list e g.1 (c := .tuple ds) (.inr rfl)
  rcases seq_cases e with rfl | rfl
  · refine ⟨Nat.zero_le 1, rfl, rows, .tuple ds, rfl, B.r20, B.th, gt, .inl rfl, ?_⟩
    rw [q]
    exact ⟨f, f, eqT_same ⟨sx, eqT_same h⟩⟩
  · refine ⟨Nat.zero_le 1, rfl, rows, .tuple ds, rfl, B.r20, B.th, gt, .inl rfl, ?_⟩
    rw [q]
    exact ⟨f, f, eqT_same ⟨sx, eqT_same h⟩⟩
abbrev C3 : FS := sParL 10 11 (fB (g1 gList) (fCons (fFrz 7) fNil)) (fCall 2 F_draw (fCons (fVar 2) (fCons (fB (g1 gLen) (fCons (fFrz 7) fNil)) fNil)))
theorem c3_run (e : seqL d = some ds) (t : Told rows ds) (k10 : Np c10) (k11 : Np c11) (h : ∀ m : Nat, m < ds.length → R (stL ns C rows c1 one c6 (some (.dat d)) c8 c9 (some (.own false (.list ds))) (some (.dat (.int m))) c12) N x) :
    sCons C3 R (stL ns C rows c1 one c6 (some (.dat d)) c8 c9 c10 c11 c12) N x := by
  have l1 := t.l1
  have l40 := t.l40
  have go : ∀ s : Int, 0 ≤ s → s < ds.length → Tr.putK 10 (.own false (.list ds)) (stL ns C rows c1 one c6 (some (.dat d)) c8 c9 c10 c11 c12) fun ρ3 => Tr.putK 11 (.dat (.int s)) ρ3 fun ρ' => R ρ' N x := fun s s0 s1 => by
    obtain ⟨m, rfl⟩ : ∃ m : Nat, s = m := ⟨s.toNat, by omega⟩
    exact Np.put rfl k10 rfl (fun _ => nofun) (Np.put rfl k11 rfl (fun _ => nofun) (h m (by omega)))
  rcases seq_cases e with rfl | rfl
  · exact ⟨Nat.le_refl 1, rfl, (ds.length : Int), rfl, by omega, by omega, fun s s0 s1 => ⟨.inl rfl, go s s0 s1⟩⟩
  · exact ⟨Nat.le_refl 1, rfl, (ds.length : Int), rfl, by omega, by omega, fun s s0 s1 => ⟨.inl rfl, go s s0 s1⟩⟩
abbrev C4 (C Dv : Addr) : FS := sIf (fTest (f2 gNe (fCall 2 (F_knownX C Dv) (fCons (fVar 4) (fCons (fVar 10) fNil))) (f2 gIx (fFrz 9) (fC (.dat (.int (1))))))) (sRet (fC (.dat (.bool false)))) sNil
theorem c4_run (B : Base rows) (g : GvOk d) (e : seqL d = some ds) (t : Told rows ds) (h : R (stL ns C rows c1 one c6 c7 c8 (some (.dat (.list [.str "told", .list ds]))) (some (.own false (.list ds))) c11 c12) N x) :
    sCons (C4 C Dv) R (stL ns C rows c1 one c6 c7 c8 (some (.dat (.list [.str "told", .list ds]))) (some (.own false (.list ds))) c11 c12) N x := by
  have gl := given_list e g.1 (c := .list ds) (.inl rfl)
  have ly := lay_seq e g
  refine ⟨Nat.zero_le 1, rfl, rows, .list ds, rfl, B.r20, B.th, gl.1, gl.2, (fun hn => nomatch hn), fun ds' e' => ?_⟩
  cases Option.some.inj e'
  refine ⟨fun no => absurd ⟨t.l1, t.l40⟩ no, fun _ _ => ⟨fun i hi hb _ => ?_, fun _ => ⟨.inr (tup_told B.th t), .list ds, rfl, ⟨lay_sh ly, lay_sh ly⟩, ne_same ly.1 h⟩⟩⟩
  rw [t.ok i hi] at hb
  cases hb
abbrev C5 : FS := sPutL 10 11 (fC (.dat (.none)))
theorem c5_run (hm : m < ds.length) (h : R (stL ns C rows c1 one c6 c7 c8 c9 (some (.own false (.list (ds.set m .none)))) (some (.dat (.int m))) c12) N x) :
    sCons C5 R (stL ns C rows c1 one c6 c7 c8 c9 (some (.own false (.list ds))) (some (.dat (.int m))) c12) N x := ⟨rfl, m, rfl, hm, h⟩
abbrev C6 (C : Addr) : FS := sIf (fTest (f2 gNe (fCall 2 (F_metX C) (fCons (fVar 4) (fCons (fVar 10) fNil))) (fDisp .newl (fCons (fC (.dat (.str "refused"))) (fCons (fFrz 11) fNil))))) (sRet (fC (.dat (.bool false)))) sNil
theorem given_put {ds : List D} {m : Nat} (h : GivenOk (.list ds)) : GivenOk (.list (ds.set m .none)) := by
  refine ⟨fun es e2 z hz => ?_, fun z e2 => by cases e2⟩
  cases Option.some.inj e2
  rcases List.mem_or_eq_of_mem_set hz with q | rfl
  · exact h.1 ds rfl z q
  · exact ⟨trivial, fun us e => by cases e⟩
theorem c6_run (B : Base rows) (g : GivenOk (.list ds)) (t : Told rows ds) (hm : m < ds.length) (h : R (stL ns C rows c1 one c6 c7 c8 c9 (some (.own false (.list (ds.set m .none)))) (some (.dat (.int m))) c12) N x) :
    sCons (C6 C) R (stL ns C rows c1 one c6 c7 c8 c9 (some (.own false (.list (ds.set m .none)))) (some (.dat (.int m))) c12) N x := by
  have q := due_put t hm
  have f : Fit (.list (refused m)) := fit_ref (by have := t.l40; omega)
  refine ⟨Nat.zero_le 1, rfl, rows, .list (ds.set m .none), rfl, B.r20, B.th, given_put g, ?_⟩
  rw [q]
  exact ⟨.inr (by simp [flAV, tupDs, tupD, refused]), sz (by simp), ⟨f.sh, f.sh⟩, ne_same f.cl h⟩
abbrev C7 : FS := sSet 12 (f2 gAdd (fB (g1 gList) (fCons (fFrz 7) fNil)) (fB (g1 gList) (fCons (fSl (fFrz 7) oNone (oSome (fC (.dat (.int (1)))))) fNil)))
theorem c7_run (e : seqL d = some ds) (t : Told rows ds) (k12 : Np c12) (h : R (stL ns C rows c1 one c6 (some (.dat d)) c8 c9 c10 c11 (some (.own false (.list (ds ++ ds.take 1))))) N x) :
    sCons C7 R (stL ns C rows c1 one c6 (some (.dat d)) c8 c9 c10 c11 c12) N x := by
  have l1 := t.l1
  have l40 := t.l40
  have cut : Tr.cutD ds none (some 1) = ds.take 1 := cut_to (n := 1) l1
  have fin : ds.length + (Tr.cutD ds none (some 1)).length ≤ sizeLine ∧ Tr.putK 12 (.own false (.list (ds ++ Tr.cutD ds none (some 1)))) (stL ns C rows c1 one c6 (some (.dat d)) c8 c9 c10 c11 c12) fun ρ' => R ρ' N x := by
    rw [cut]
    refine ⟨?_, Np.put rfl k12 rfl (fun _ => nofun) h⟩
    rw [List.length_take]
    exact Nat.le_of_lt (small1000 (by omega))
  rcases seq_cases e with rfl | rfl
  · exact fin
  · exact fin
abbrev C8 (C : Addr) : FS := sIf (fAnd (fTest (f2 gLt (fB (g1 gLen) (fCons (fFrz 7) fNil)) (fC (.dat (.int (40)))))) (fTest (f2 gNe (fCall 2 (F_metX C) (fCons (fVar 4) (fCons (fFrz 12) fNil))) (fDisp .newl (fCons (fC (.dat (.str "told"))) (fCons (fFrz 12) fNil)))))) (sRet (fC (.dat (.bool false)))) sNil
theorem c8_run (B : Base rows) (g : GvOk d) (e : seqL d = some ds) (t : Told rows ds) (h : ∀ c12, Np c12 → N.nx (stL ns C rows c1 one c6 (some (.dat d)) c8 c9 c10 c11 c12)) :
    C8 C (stL ns C rows c1 one c6 (some (.dat d)) c8 c9 c10 c11 (some (.own false (.list (ds ++ ds.take 1))))) N x := by
  have gl := given_list e g.1 (c := .list ds) (.inl rfl)
  have f := fit_more (lay_seq e g)
  have go : ∀ P : Prop, ds.length < 40 → (sIf (fTest (f2 gNe (fCall 2 (F_metX C) (fCons (fVar 4) (fCons (fFrz 12) fNil))) (fDisp .newl (fCons (fC (.dat (.str "told"))) (fCons (fFrz 12) fNil))))) (sRet (fC (.dat (.bool false)))) sNil) (stL ns C rows c1 one c6 (some (.dat d)) c8 c9 c10 c11 (some (.own false (.list (ds ++ ds.take 1))))) N x := fun P l => by
    refine ⟨Nat.zero_le 1, rfl, rows, .list (ds ++ ds.take 1), rfl, B.r20, B.th, given_more gl, ?_⟩
    rw [due_told rfl (told_more t l)]
    exact ⟨.inl rfl, sz (by simp), ⟨f.sh, f.sh⟩, ne_same f.cl (h _ fun b hb => by cases hb; rfl)⟩
  have out := h (some (.own false (.list (ds ++ ds.take 1)))) fun b hb => by cases hb; rfl
  rcases seq_cases e with rfl | rfl
  · refine ifs (fun l => ?_) fun _ => out
    exact go True (by have := of_decide_eq_true l; omega)
  · refine ifs (fun l => ?_) fun _ => out
    exact go True (by have := of_decide_eq_true l; omega)
end
end KA
set_option Elab.async false
set_option linter.all false
set_option maxRecDepth 100000
namespace KA
open PySem PySem.Spec PyProof.Rows L2 Evl Kc Kz Kx Tr Mg K23 K22 K27 K24
abbrev ToldF (C Dv : Addr) : FS := sCons (C1 C Dv) (sCons (C2 C) (sCons C3 (sCons (C4 C Dv) (sCons C5 (sCons (C6 C) (sCons C7 (C8 C)))))))
theorem nOwn {d : D} : Np (some (.own false d)) := fun b hb => by cases hb; rfl
theorem nDat {d : D} : Np (some (.dat d)) := fun b hb => by cases hb; rfl
section
variable {ns : List Int} {C Dv : Addr} {rows : List Mg.Row} {c1 c6 c7 c8 c9 c10 c11 c12 : Option AV} {one d : D} {ds : List D} {R : FS} {N : EndsT} {x : KX} {m : Nat}
theorem told_run (B : Base rows) (g : GvOk d) (e : seqL d = some ds) (t : Told rows ds) (k10 : Np c10) (k11 : Np c11) (k12 : Np c12)
    (h : ∀ c10 c11 c12, Np c10 → Np c11 → Np c12 → N.nx (stL ns C rows c1 one c6 (some (.dat d)) (some (.dat (.str d.shown))) (some (.dat (.list [.str "told", .list ds]))) c10 c11 c12)) :
    ToldF C Dv (stL ns C rows c1 one c6 (some (.dat d)) (some (.dat (.str d.shown))) (some (.dat (.list [.str "told", .list ds]))) c10 c11 c12) N x := by
  refine c1_run B g.1 e t (c2_run B g e t (c3_run e t k10 k11 fun m hm => ?_))
  refine c4_run B g e t (c5_run hm (c6_run B (given_list e g.1 (.inl rfl)) t hm (c7_run e t k12 ?_)))
  exact c8_run B g e t fun c12 k12 => h _ _ _ nOwn nDat k12
abbrev B5 (C Dv : Addr) : FS := sIf (fTest (f2 gEq (f2 gIx (fFrz 9) (fC (.dat (.int (0))))) (fC (.dat (.str "told"))))) (ToldF C Dv) sNil
theorem sh_told : SeqAt.shaped (.str "told") = true := by decide +kernel
theorem sh_refused : SeqAt.shaped (.str "refused") = true := by decide +kernel
theorem b5_run (B : Base rows) (g : GvOk d) (k10 : Np c10) (k11 : Np c11) (k12 : Np c12)
    (h : ∀ c8 c9 c10 c11 c12, Np c8 → Np c9 → Np c10 → Np c11 → Np c12 → N.nx (stL ns C rows c1 one c6 (some (.dat d)) c8 c9 c10 c11 c12)) :
    B5 C Dv (stL ns C rows c1 one c6 (some (.dat d)) (some (.dat (.str d.shown))) (some (.dat (.list (dueL rows d)))) c10 c11 c12) N x := by
  rcases due_cases rows d with ⟨i, hi, e⟩ | ⟨ds, e, t, ed⟩
  · rw [e]
    refine ⟨.str "refused", rfl, ⟨sh_refused, sh_told⟩, ?_⟩
    exact h _ _ _ _ _ nDat nDat k10 k11 k12
  · rw [ed]
    refine ⟨.str "told", rfl, ⟨sh_told, sh_told⟩, ?_⟩
    exact told_run B g e t k10 k11 k12 fun c10 c11 c12 => h _ _ c10 c11 c12 nDat nDat
abbrev B4 (C : Addr) : FS := sIf (fOr (fTest (f2 (gEqT true) (fB (g1 gReprX) (fCons (fCall 2 (F_metX C) (fCons (fVar 4) (fCons (fFrz 7) fNil))) fNil)) (fB (g1 gReprX) (fCons (fFrz 9) fNil)))) (fTest (f2 (gEqT true) (fB (g1 gReprX) (fCons (fFrz 7) fNil)) (fVar 8)))) (sRet (fC (.dat (.bool false)))) sNil
theorem b4_run (B : Base rows) (g : GvOk d) (h : R (stL ns C rows c1 one c6 (some (.dat d)) (some (.dat (.str d.shown))) (some (.dat (.list (dueL rows d)))) c10 c11 c12) N x) :
    sCons (B4 C) R (stL ns C rows c1 one c6 (some (.dat d)) (some (.dat (.str d.shown))) (some (.dat (.list (dueL rows d)))) c10 c11 c12) N x := by
  have f := (due_fit (rows := rows) g).sx
  have sx := gv_show g
  exact ⟨Nat.zero_le 1, rfl, rows, d, rfl, B.r20, B.th, g.1, .inl rfl, f, f, eqT_same ⟨sx, eqT_same h⟩⟩
abbrev B3 : FS := sPar 8 9 (fCons (fB (g1 gReprX) (fCons (fFrz 7) fNil)) (fCons (fCall 2 F_dueX (fCons (fFrz 3) (fCons (fFrz 7) fNil))) fNil))
/-- the given value stands in slot 7, still owned or not -/
def G7 (c : Option AV) (d : D) : Prop := c = some (.dat d) ∨ c = some (.own false d)
theorem b3_run (B : Base rows) (g : GvOk d) (h7 : G7 c7 d) (k8 : Np c8) (k9 : Np c9) (h : R (stL ns C rows c1 one c6 (some (.dat d)) (some (.dat (.str d.shown))) (some (.dat (.list (dueL rows d)))) c10 c11 c12) N x) :
    sCons B3 R (stL ns C rows c1 one c6 c7 c8 c9 c10 c11 c12) N x := by
  have sx := gv_show g
  have fin : Tr.putK 8 (.dat (.str d.shown)) (stL ns C rows c1 one c6 (some (.dat d)) c8 c9 c10 c11 c12) fun ρ2 => Tr.putK 9 (.dat (.list (dueL rows d))) ρ2 fun ρ' => R ρ' N x :=
    Np.put rfl k8 rfl (fun _ => nofun) (Np.put rfl k9 rfl (fun _ => nofun) h)
  rcases h7 with rfl | rfl
  · exact ⟨sx, Nat.zero_le 1, rfl, rows, d, rfl, B.r20, B.th, g.1, .inl rfl, fin⟩
  · exact ⟨sx, Nat.zero_le 1, rfl, rows, d, rfl, B.r20, B.th, g.1, .inl rfl, fin⟩
abbrev B2 : FS := sIf (fTest (f2 gEq (fCall 2 F_draw (fCons (fVar 2) (fCons (fC (.dat (.int (2)))) fNil))) (fC (.dat (.int (0)))))) (sSet 7 (fCall 2 F_spoiltX (fCons (fVar 2) (fCons (fFrz 7) fNil)))) sNil
theorem b2_run {vs : List (List D)} (B : Base rows) (lv : vs.length ≤ 42) (vk : ∀ v ∈ vs, VerOk 30 rows v) (h : ∀ d c7, GvOk d → G7 c7 d → R (stL ns C rows c1 one c6 c7 c8 c9 c10 c11 c12) N x) :
    sCons B2 R (stL ns C rows c1 one c6 (some (.own false (tups vs))) c8 c9 c10 c11 c12) N x := by
  have gv : GvOk (tups vs) := gv_list (by rw [List.length_map]; omega) (el_vers B.r9 vk)
  refine ⟨Nat.le_refl 1, rfl, 2, rfl, by decide, by decide, fun q q0 q1 => ⟨.inl rfl, ⟨sh_int _, sh_int _⟩, ifI (fun _ => ?_) fun _ => ?_⟩⟩
  · refine ⟨Nat.le_refl 1, rfl, rows, vs, rfl, B.r9, lv, vk, fun d gd => ⟨.inl rfl, ?_⟩, fun ds gd => ⟨.inl rfl, ?_⟩⟩
    · exact h d _ gd (.inl rfl)
    · exact h (.list ds) _ gd (.inr rfl)
  · exact h (tups vs) _ gv (.inr rfl)
abbrev B1 : FS := sSet 7 (fCall 2 F_givenX (fCons (fVar 2) (fCons (fFrz 3) fNil)))
theorem b1_run (B : Base rows) (k7 : Np c7) (h : ∀ vs : List (List D), vs.length ≤ 42 → (∀ v ∈ vs, VerOk 30 rows v) → R (stL ns C rows c1 one c6 (some (.own false (tups vs))) c8 c9 c10 c11 c12) N x) :
    sCons B1 R (stL ns C rows c1 one c6 c7 c8 c9 c10 c11 c12) N x :=
  ⟨Nat.le_refl 1, rfl, rows, rfl, B.r9, B.th, fun vs lv vk => ⟨.inl rfl, Np.put (a := .own false (tups vs)) rfl k7 rfl (fun _ => nofun) (h vs lv vk)⟩⟩
abbrev TurnF (C Dv : Addr) : FS := sCons B1 (sCons B2 (sCons B3 (sCons (B4 C) (B5 C Dv))))
theorem turns_run (B : Base rows) (k6 : Cl c6) (k7 : Np c7) (k8 : Np c8) (k9 : Np c9) (k10 : Np c10) (k11 : Np c11) (k12 : Np c12)
    (h : ∀ c6 c7 c8 c9 c10 c11 c12, Cl c6 → Np c7 → Np c8 → Np c9 → Np c10 → Np c11 → Np c12 → N.nx (stL ns C rows c1 one c6 c7 c8 c9 c10 c11 c12)) :
    forF (gN 6) (TurnF C Dv) (rngD 0 4) (stL ns C rows c1 one c6 c7 c8 c9 c10 c11 c12) N x := by
  refine forF_by (fun _ ρ => ∃ c6 c7 c8 c9 c10 c11 c12 : Option AV, ρ = stL ns C rows c1 one c6 c7 c8 c9 c10 c11 c12 ∧ Cl c6 ∧ Np c7 ∧ Np c8 ∧ Np c9 ∧ Np c10 ∧ Np c11 ∧ Np c12) (fun i a ρ ha hI C' hC => ?_) (fun ρ hI => ?_) ⟨c6, c7, c8, c9, c10, c11, c12, rfl, k6, k7, k8, k9, k10, k11, k12⟩
  · obtain ⟨c6, c7, c8, c9, c10, c11, c12, rfl, k6, k7, k8, k9, k10, k11, k12⟩ := hI
    refine pd rfl k6 ?_
    refine b1_run (c6 := some (.dat a)) B k7 fun vs lv vk => b2_run B lv vk fun d c7 gd h7 => b3_run B gd h7 k8 k9 (b4_run B gd (b5_run B gd k10 k11 k12 fun c8 c9 c10 c11 c12 k8 k9 k10 k11 k12 => ?_))
    exact hC _ ⟨_, _, _, _, _, _, _, rfl, .dat, nDat, k8, k9, k10, k11, k12⟩
  · obtain ⟨c6, c7, c8, c9, c10, c11, c12, rfl, k6, k7, k8, k9, k10, k11, k12⟩ := hI
    exact h _ _ _ _ _ _ _ k6 k7 k8 k9 k10 k11 k12
def big (n : Nat) (os : List D) : List D := (List.replicate n os).flatten
theorem big_len (n : Nat) (os : List D) : (big n os).length = n * os.length := by
  unfold big
  rw [List.length_flatten, List.map_replicate, List.sum_replicate_nat]
theorem big_el {n : Nat} {os : List D} (h : ∀ e ∈ os, ElOk e) : ∀ e ∈ big n os, ElOk e := fun e he => by
  unfold big at he
  obtain ⟨l, hl, hm⟩ := List.mem_flatten.mp he
  rw [(List.mem_replicate.mp hl).2] at hm
  exact h e hm
abbrev A5 (C : Addr) : FS := sIf (fOr (fTest (f2 gNe (fCall 2 (F_metX C) (fCons (fVar 4) (fCons (f2 gMul (fVar 5) (fC (.dat (.int (40))))) fNil))) (fCall 2 F_dueX (fCons (fFrz 3) (fCons (f2 gMul (fVar 5) (fC (.dat (.int (40))))) fNil))))) (fTest (f2 gNe (fCall 2 (F_metX C) (fCons (fVar 4) (fCons (f2 gMul (fVar 5) (fC (.dat (.int (41))))) fNil))) (fDisp .newl (fCons (fC (.dat (.str "refused"))) (fCons (f1 gNeg (fC (.dat (.int (1))))) fNil)))))) (sRet (fC (.dat (.bool false)))) sNil
theorem a5_run {os : List D} (B : Base rows) (lo : os.length ≤ 1) (el : ∀ e ∈ os, ElOk e) (h : R (stL ns C rows c1 (.list os) c6 c7 c8 c9 c10 c11 c12) N x) :
    sCons (A5 C) R (stL ns C rows c1 (.list os) c6 c7 c8 c9 c10 c11 c12) N x := by
  have g40 : GvOk (.list (big 40 os)) := gv_list (by rw [big_len]; omega) (big_el el)
  have g41 : GvOk (.list (big 41 os)) := gv_list (by rw [big_len]; omega) (big_el el)
  have f := due_fit (rows := rows) g40
  have r : dueL rows (.list (big 41 os)) = refused (-1) := by
    unfold dueL
    show (if 1 ≤ (big 41 os).length ∧ (big 41 os).length ≤ 40 then _ else _) = _
    rw [big_len, if_neg (by omega)]
  have f1 : Fit (.list (refused (-1))) := fit_ref (by decide)
  refine ⟨⟨by decide, by decide, Nat.le_of_lt (small1000 (by show os.length * 40 ≤ 1000; omega))⟩, Nat.zero_le 1, rfl, rows, .list (big 40 os), rfl, B.r20, B.th, g40.1, .inl rfl, ?_⟩
  refine ⟨⟨by decide, by decide, Nat.le_of_lt (small1000 (by show os.length * 40 ≤ 1000; omega))⟩, Nat.zero_le 1, rfl, rows, .list (big 40 os), rfl, B.r20, B.th, g40.1, .inl rfl, ?_⟩
  refine ⟨⟨f.sh, f.sh⟩, ne_same f.cl ?_⟩
  refine ⟨⟨by decide, by decide, Nat.le_of_lt (small1000 (by show os.length * 41 ≤ 1000; omega))⟩, Nat.zero_le 1, rfl, rows, .list (big 41 os), rfl, B.r20, B.th, g41.1, .inl rfl, ?_⟩
  rw [r]
  exact ⟨sz (by simp), ⟨f1.sh, f1.sh⟩, h⟩
abbrev stO (ns : List Int) (c1 c2 c3 c4 c5 c6 c7 c8 c9 c10 c11 c12 : Option AV) : S := [some (.scr ns), c1, c2, c3, c4, c5, c6, c7, c8, c9, c10, c11, c12]
abbrev A4 : FS := sSet 5 (fSl (fCall 2 F_givenX (fCons (fVar 2) (fCons (fFrz 3) fNil))) oNone (oSome (fC (.dat (.int (1))))))
theorem a4_run {c5 : Option AV} (B : Base rows) (k5 : Np c5) (h : ∀ os : List D, os.length ≤ 1 → (∀ e ∈ os, ElOk e) → R (stL ns C rows c1 (.list os) c6 c7 c8 c9 c10 c11 c12) N x) :
    sCons A4 R (stO ns c1 (some (.pot false)) (some (.dat (flD rows))) (some (schO C rows)) c5 c6 c7 c8 c9 c10 c11 c12) N x := by
  refine ⟨Nat.le_refl 1, rfl, rows, rfl, B.r9, B.th, fun vs lv vk => ⟨.inl rfl, ?_⟩⟩
  have el := el_vers B.r9 vk
  refine Np.put (a := .own false (.list (Tr.cutD (vs.map PyData.tuple) none (some 1)))) rfl k5 rfl (fun _ => nofun) (h _ ?_ fun e he => el e (cut_mem he))
  cases vs with
  | nil => exact Nat.le_trans cut_le (Nat.zero_le _)
  | cons v vs =>
    rw [show Tr.cutD (List.map PyData.tuple (v :: vs)) none (some 1) = (List.map PyData.tuple (v :: vs)).take 1 from cut_to (n := 1) (by rw [List.length_map]; exact Nat.succ_pos _)]
    exact List.length_take_le _ _
abbrev A3 (C : Addr) : FS := sSet 4 (fMake C "rows" 1 F_init (fCons (fFrz 3) fNil))
abbrev A2 : FS := sSet 3 (fCall 1 F_somef (fCons (fVar 2) fNil))
theorem a23_run {c3 c4 c5 : Option AV} (k3 : Np c3) (k4 : Np c4) (h : ∀ rows, Base rows → R (stO ns c1 (some (.pot false)) (some (.dat (flD rows))) (some (schO C rows)) c5 c6 c7 c8 c9 c10 c11 c12) N x) :
    sCons A2 (sCons (A3 C) R) (stO ns c1 (some (.pot false)) c3 c4 c5 c6 c7 c8 c9 c10 c11 c12) N x := by
  refine ⟨Nat.le_refl 1, rfl, rfl, fun rows a b ok ha hb h0 => ⟨.inl rfl, ?_⟩⟩
  refine Np.put (a := .own false (flD rows)) rfl k3 rfl (fun _ => nofun) ?_
  refine ⟨rfl, rfl, rfl, rows, a, b, rfl, ok, by omega, by omega, h0, ?_⟩
  refine Np.put (a := schO C rows) rfl k4 rfl (fun _ => nofun) ?_
  exact h rows ⟨by rw [ok.len]; omega, ok.kd⟩
abbrev A1 : FS := sSet 2 (fCall 2 F_pot (fCons (fVar 0) (fCons (fVar 1) fNil)))
theorem a1_run {c2 c3 c4 c5 : Option AV} (k2 : Np c2) (hm : m < 100) (h : R (stO ns (some (.dat (.int m))) (some (.pot false)) c3 c4 c5 c6 c7 c8 c9 c10 c11 c12) N x) :
    sCons A1 R (stO ns (some (.dat (.int m))) c2 c3 c4 c5 c6 c7 c8 c9 c10 c11 c12) N x :=
  ⟨Nat.zero_le 1, rfl, ns, m, rfl, hm, .inl rfl, Np.put (a := .pot false) rfl k2 rfl (fun _ => nofun) h⟩
abbrev A6 (C Dv : Addr) : FS := sFor (iR1 (fCons (fC (.dat (.int (4)))) fNil)) (gN 6) (TurnF C Dv)
abbrev OuterF (C Dv : Addr) : FS := sCons A1 (sCons A2 (sCons (A3 C) (sCons A4 (sCons (A5 C) (A6 C Dv)))))
theorem outer_run {n : Nat} (hn : n ≤ 5) (h : ∀ c1 c2 c3 c4 c5 c6 c7 c8 c9 c10 c11 c12, N.nx (stO ns c1 c2 c3 c4 c5 c6 c7 c8 c9 c10 c11 c12)) :
    forF (gN 1) (OuterF C Dv) (rngD 0 n) (stO ns none none none none none none none none none none none none) N x := by
  refine forF_by (fun _ ρ => ∃ c1 c2 c3 c4 c5 c6 c7 c8 c9 c10 c11 c12 : Option AV, ρ = stO ns c1 c2 c3 c4 c5 c6 c7 c8 c9 c10 c11 c12 ∧ Cl c1 ∧ Np c2 ∧ Np c3 ∧ Np c4 ∧ Np c5 ∧ Cl c6 ∧ Np c7 ∧ Np c8 ∧ Np c9 ∧ Np c10 ∧ Np c11 ∧ Np c12) (fun i a ρ ha hI C' hC => ?_) (fun ρ hI => ?_)
    ⟨none, none, none, none, none, none, none, none, none, none, none, none, rfl, .no, nofun, nofun, nofun, nofun, .no, nofun, nofun, nofun, nofun, nofun, nofun⟩
  · obtain ⟨c1, c2, c3, c4, c5, c6, c7, c8, c9, c10, c11, c12, rfl, k1, k2, k3, k4, k5, k6, k7, k8, k9, k10, k11, k12⟩ := hI
    obtain ⟨hi, rfl⟩ := rngD_get ha
    rw [show (0 : Int) + (i : Nat) = (i : Nat) by omega]
    refine pd rfl k1 ?_
    refine a1_run (m := i) k2 (by omega) (a23_run k3 k4 fun rows B => a4_run B k5 fun os lo el => a5_run B lo el ?_)
    refine ⟨⟨by decide, by decide⟩, ?_⟩
    refine turns_run B k6 k7 k8 k9 k10 k11 k12 fun c6 c7 c8 c9 c10 c11 c12 k6 k7 k8 k9 k10 k11 k12 => ?_
    exact hC _ ⟨_, _, _, _, _, _, _, _, _, _, _, _, rfl, .dat, (fun b hb => by cases hb; rfl), nDat, (fun b hb => by cases hb; rfl), nOwn, k6, k7, k8, k9, k10, k11, k12⟩
  · obtain ⟨c1, c2, c3, c4, c5, c6, c7, c8, c9, c10, c11, c12, rfl, _⟩ := hI
    exact h _ _ _ _ _ _ _ _ _ _ _ _
end
end KA
set_option Elab.async false
set_option linter.all false
set_option maxRecDepth 100000
namespace KA
open PySem PySem.Spec PyProof.Rows L2 Evl Kc Kz Kx Tr Mg K23 K22 K27 K24
theorem defO_imp {P : Program} {w : World} {K : PySem.W.Frag} {mg : Str → Option Value} {base : Heap} {nm : Str} {ps : List Str} {l : Nat} {F F' : FD} (h : ∀ as k x, F' as k x → F as k x) (d : DefO P w K mg base nm ps l F) : DefO P w K mg base nm ps l F' := by
  obtain ⟨f, fd, ok, m, kp, b⟩ := d.ex
  exact ⟨f, fd, ok.imp fun vs H Q E ⟨G, as, k, x, h1, h2, h3, h4, h5⟩ => ⟨G, as, k, x, h1, h2, h3, h _ _ _ h4, h5⟩, m, kp, b⟩
theorem defK_of {P : Program} {w : World} {K : PySem.W.Frag} {mg : Str → Option Value} {base : Heap} {nm a b : Str} {l : Nat} {F : FD} {f : Addr} {fd : FuncData} (ok : FnOk P w K mg base (L2.CX P w) l f fd [a, b] (spT K 2 F)) (m : mg nm = some (.ref f)) (kp : PySem.W.keepIn K (.ref f) = true)
    (bd : ∀ (s : Shared) (u v : Value), BindsTo s fd ⟨[], [(b, u), (a, v)]⟩ [(a, v), (b, u)]) : DefK P w K mg base nm a b l F :=
  ⟨f, fd, .of ok, m, kp, ⟨fun s us ws _ hl => match us, ws, hl with
    | [], [u, v], _ => bd s u v, fun r z => swp_rel r z⟩⟩
theorem nameA_of : ∀ as k x, F_is_name as k x → F_nameA as k x := by
  rintro _ k x ⟨z, rfl, w, hk⟩
  refine ⟨.str z, rfl, ?_, ?_⟩
  · have := (word_parts w).2.1
    show z.length ≤ 1000
    omega
  · show k (.dat (.bool (wordB (.str z))))
    rw [show wordB (.str z) = true from w]
    exact hk
theorem values_of {n : Nat} : ∀ {rows : List Mg.Row} {ds : List D}, VerOk n rows ds → valuesB rows ds = true
  | _, _, .nil => rfl
  | _, _, .cons (r := r) (d := d) h t => by
    show (valueB r.2 d && _) = true
    rw [values_of t, Bool.and_true]
    unfold valueB
    cases d <;> first | exact h.elim | skip
    · rw [if_pos h.1]
      rfl
    · rw [if_neg h.1]
      exact h.2
end KA
set_option Elab.async false
set_option linter.all false
set_option maxRecDepth 100000
namespace KB
open PySem PySem.Spec PyProof.Rows L2 Evl Kc Kz Kx Tr Mg K23 K22 K27 K24 KA
mutual
def w2 : D → Nat
  | .none => 4
  | .bool _ => 5
  | .int _ => 1922
  | .str z => 10 * z.length + 2
  | .list ds => 4 + w2s ds
  | .tuple ds => 4 + w2s ds
  | .dict es => (PyData.dict es).shown.length
def w2s : List D → Nat
  | [] => 0
  | d :: ds => w2 d + 2 + w2s ds
end
end KB
set_option Elab.async false
set_option linter.all false
set_option maxRecDepth 100000
set_option maxHeartbeats 4000000
namespace KB
open PySem PySem.Spec PyProof.Rows L2 Evl Kc Kz Kx Tr Mg K23 K22 K27 K24 KA
end KB
set_option Elab.async false
set_option linter.all false
set_option maxRecDepth 100000
namespace KB
open PySem PySem.Spec PyProof.Rows L2 Evl Kc Kz Kx Tr Mg K23 K22 K27 K24 KA
end KB
set_option Elab.async false
set_option linter.all false
set_option maxRecDepth 100000
namespace KB
open PySem PySem.Spec PyProof.Rows L2 Evl Kc Kz Kx Tr Mg K23 K22 K27 K24 KA
end KB
set_option Elab.async false
set_option linter.all false
set_option maxRecDepth 100000
namespace KB
open PySem PySem.Spec PyProof.Rows L2 Evl Kc Kz Kx Tr Mg K23 K22 K27 K24 KA
end KB
set_option Elab.async false
set_option linter.all false
set_option maxRecDepth 100000
namespace KB
open PySem PySem.Spec PyProof.Rows L2 Evl Kc Kz Kx Tr Mg K23 K22 K27 K24 KA
end KB
set_option Elab.async false
set_option linter.all false
set_option maxRecDepth 100000
namespace KB
open PySem PySem.Spec PyProof.Rows L2 Evl Kc Kz Kx Tr Mg K23 K22 K27 K24 KA
end KB
set_option Elab.async false
set_option linter.all false
set_option maxRecDepth 100000
namespace Tr
open PySem PySem.Spec PyProof.Rows L2 Evl Kc Kz Kx
section
variable {K : PySem.W.Frag} {E : Ent} {ρ : S} {G G' H H' : Hp} {σ : L2.St}
/-- more is made, nothing is changed -/
theorem Rel.ext (r : Rel K E ρ G σ H) (gn : ∀ b qs, G' b ≠ some (.tbl qs)) (s : Kept (TN K) [] H H') (g : Ex G G') (sub : Ex G' H') (new : ∀ b o, G' b = some o → G b = some o ∨ H b = none) : Rel K E ρ G' σ H' := by
  have off : ∀ {q : Addr} {o : HO}, H q = some o → G q = none → G' q = none := fun {q o} e n => by
    cases z : G' q with
    | none => rfl
    | some u =>
      rcases new q u z with y | y
      · rw [n] at y; cases y
      · rw [e] at y; cases y
  refine ⟨sub, r.len, fun i a h => ?_, r.apart, r.mine, r.par, r.grow.trans g, fun b o h => ?_, r.but.then s nofun, fun q hq => ?_, r.h0p, fun b o h => ?_, r.fno, gn⟩
  · obtain ⟨v, e, hh⟩ := r.slot i a h
    refine ⟨v, e, ?_⟩
    cases ho : a.isOwn with
    | false => exact hh.still g ho
    | true =>
      obtain ⟨q, rfl, gq, st⟩ := hh.own ho
      cases z : H q with
      | none => exact absurd z st.some
      | some o => exact Hold.of_own ho (off z gq) (st.mono g (s.keep nofun st.some st.mut))
  · rcases new b o h with y | y
    · exact r.new b o y
    · exact .inr (r.h0 y)
  · exact pot_at (r.live q hq) (s.keep nofun (pot_some (r.live q hq)) (pot_mut (r.live q hq)))
  · obtain ⟨h1, h2, h3⟩ := r.frm b o h
    exact ⟨s.but b o nofun h1 (fun qs e => r.fno b qs (by rw [h, e])), off h1 h2, h3⟩
end
/-- {key: kept(value[key], levels - 1) for key in value}: of a dict of values without parts -/
def fKD : FE := fun ρ k _ => ∃ (es : List (D × D)) (n : Int), ρ[0]? = some (some (.dat (.dict es))) ∧ ρ[1]? = some (some (.dat (.int n))) ∧ (es.all fun e => flatD e.2) = true ∧ (es.map (·.1)).Nodup ∧ es.length ≤ 1000 ∧ 3 < ρ.length ∧ k (.own false (.dict es)) ρ
theorem kD_inj {a b : Key} (h : kD a = kD b) : a = b := by
  cases a <;> cases b <;> cases h <;> rfl
theorem rpk_keys {K : PySem.W.Frag} {G : Hp} : ∀ {kvs : List (Key × V)} {es : List (D × D)}, Rpk K G kvs es → es.map (·.1) = kvs.map fun p => kD p.1
  | _, _, .nil => rfl
  | _, _, .cons _ t => by rw [List.map_cons, List.map_cons, rpk_keys t]
theorem rpk_flat {K : PySem.W.Frag} {G : Hp} : ∀ {kvs : List (Key × V)} {es : List (D × D)}, Rpk K G kvs es → (es.all fun e => flatD e.2) = true → ∀ p ∈ kvs, FlatV p.2
  | _, _, .nil, _, p, hp => by cases hp
  | _, _, .cons h t, f, p, hp => by
    simp only [List.all_cons, Bool.and_eq_true] at f
    rcases List.mem_cons.mp hp with rfl | hp2
    · exact flatV_of h f.1
    · exact rpk_flat t f.2 p hp2
theorem find_nodup {tab : List (Key × V)} {i : Nat} {k : Key} {v : V} (nd : (tab.map (·.1)).Nodup) (h : tab[i]? = some (k, v)) : valV tab k = some v ∧ L2.putK (tab.take i) k v = tab.take (i + 1) := by
  induction tab generalizing i with
  | nil => cases i <;> cases h
  | cons p l ih =>
    simp only [List.map_cons, List.nodup_cons] at nd
    cases i with
    | zero =>
      cases Option.some.inj h
      exact ⟨valV_pos rfl, rfl⟩
    | succ i =>
      have h : l[i]? = some (k, v) := h
      have ne : ¬ p.1 = k := fun e => nd.1 (e ▸ List.mem_map.mpr ⟨(k, v), List.mem_of_getElem? h, rfl⟩)
      obtain ⟨h1, h2⟩ := ih nd.2 h
      refine ⟨(valV_neg ne).trans h1, ?_⟩
      show L2.putK (p :: l.take i) k v = p :: l.take (i + 1)
      rw [← h2]
      unfold L2.putK
      rw [List.any_cons, decide_eq_false ne, Bool.false_or, List.map_cons, if_neg ne]
      split <;> rfl
theorem ref_keptD {X : Cx} {EX : XK} : RefE X (tLockE (tDc (iKeys (tVar 0)) (gName 3) tYes (tVar 3) (tCall spKf [] EX (tCons (tDGet (tVar 0) (tVar 3)) (tCons (tOp (rI0 fun i j => .int (i - j)) (tVar 1) (tC (.int 1))) tNil))) [3])) fKD := fun W E ρ G σ H Q k x tk R lx lk hf => by
  · obtain ⟨es, n, e0, e1, fl, nd, ln, l4, hk⟩ := hf
    obtain ⟨v0, s0, h0⟩ := R.slot 0 _ e0
    obtain ⟨v1, s1, h1⟩ := R.slot 1 _ e1
    cases (show Rp X.K G v1 (.int n) from h1)
    have sl : 3 < σ.length := by rw [← R.len]; exact l4
    cases (show Rp X.K G v0 (.dict es) from h0) with
    | @dct a kvs _ g0 r0 =>
    have hd : H a = some (.dK kvs) := R.sub _ _ g0
    have nk : (kvs.map (·.1)).Nodup := by
      have : (kvs.map fun p => kD p.1).Nodup := by rw [← rpk_keys r0]; exact nd
      rw [show (kvs.map fun p => kD p.1) = (kvs.map (·.1)).map kD by rw [List.map_map]; rfl] at this
      exact List.Pairwise.of_map kD (fun a b h e => h (congrArg kD e)) this
    have fv := rpk_flat r0 fl
    have kl : kvs.length ≤ 1000 := by rw [r0.len]; exact ln
    refine ⟨a, .dK kvs, hd, ?_, fun od => ?_⟩
    · trivial
    refine ⟨.ref a, s0, a, od, rfl, .inl ⟨kvs, upd_same, fun q nq => ?_⟩⟩
    have qa : q ≠ a := fun e => by rw [e, upd_same] at nq; cases nq
    have nq' : H q = none := by rw [upd_ne qa] at nq; exact nq
    refine ⟨fun i m H' => m = kvs.length - i ∧ i ≤ kvs.length ∧ H' = upd (upd H a (.frz od (.dK kvs))) q (.dK (kvs.take i)), ⟨kvs.length, by simp, Nat.zero_le _, rfl⟩, ?_⟩
    rintro i m H' ⟨rfl, hi, rfl⟩
    have at_a : ∀ z, upd (upd H a (.frz od (.dK kvs))) q z a = some (.frz od (.dK kvs)) := fun z => by rw [upd_ne qa.symm, upd_same]
    by_cases hlt : i < kvs.length
    · refine .inr ⟨⟨at_a _, hlt⟩, fun H' => H' = upd (upd H a (.frz od (.dK kvs))) q (.dK (kvs.take (i + 1))), fun H' e => ⟨kvs.length - (i + 1), by omega, rfl, hlt, e⟩, fun y H2 yl => ?_⟩
      obtain ⟨rfl, key, v, hkv, rfl⟩ := yl
      obtain ⟨vk, pk⟩ := find_nodup nk hkv
      have w0 : ((L2.wipe σ [3]).set 3 (some (kV key)))[0]? = some (some (.ref a)) := by rw [List.getElem?_set_ne (by decide), wipe_out (by decide)]; exact s0
      have w1 : ((L2.wipe σ [3]).set 3 (some (kV key)))[1]? = some (some (.int n)) := by rw [List.getElem?_set_ne (by decide), wipe_out (by decide)]; exact s1
      have w3 : ((L2.wipe σ [3]).set 3 (some (kV key)))[3]? = some (some (kV key)) := by rw [List.getElem?_set, if_pos rfl, if_pos (by rw [wipe_length]; exact sl)]
      refine ⟨?_, ?_⟩
      · refine wipe_same (by rw [List.length_set, wipe_length]) fun j hj => ?_
        rw [List.getElem?_set_ne (fun z => hj (by rw [← z]; exact List.mem_singleton_self _)), wipe_out hj]
      refine ⟨kV key, w3, .ref a, w0, kV key, w3, a, v, rfl, .inl ⟨kvs, key, .inr ⟨od, at_a _⟩, rfl, vk.symm⟩, .int n, w1, n, 1, rfl, rfl, v, n - 1, rfl, fv _ (List.mem_of_getElem? hkv), ?_⟩
      refine ⟨kvs.take i, key, rfl, upd_same, ?_, ?_⟩
      · exact Nat.lt_of_le_of_lt (List.length_take_le _ _) (Nat.lt_of_lt_of_le hlt (Nat.le_trans kl (by decide)))
      · rw [pk]
        funext b
        by_cases z : b = q
        · rw [z, upd_same, upd_same]
        · rw [upd_ne z, upd_ne z, upd_ne z]
    · have e : i = kvs.length := by omega
      subst e
      rw [List.take_length]
      refine .inl ⟨⟨at_a _, Nat.le_refl _⟩, at_a _, ?_⟩
      have he : upd (upd (upd H a (.frz od (.dK kvs))) q (.dK kvs)) a (.dK kvs) = upd H q (.dK kvs) := by
        funext b
        by_cases z : b = a
        · rw [z, upd_same, upd_ne qa.symm, hd]
        · rw [upd_ne z]
          by_cases y : b = q
          · rw [y, upd_same, upd_same]
          · rw [upd_ne y, upd_ne z, upd_ne y]
      rw [he]
      exact lk (.own false (.dict es)) ρ G (.ref q) _ (Ex.refl G) (R.alloc nq') (.inr (.inr ⟨rfl, rfl, q, rfl, R.g0 nq', ⟨kvs, upd_same, r0⟩, ⟨R.h0 nq', R.f0 nq'⟩, R.loose nq'⟩)) hk
theorem xe_keptD {X : Cx} {kx vx tg iter : Expr} {scope : Scope} {pos : Pos} {EX : XK} (hi : PE X iter (tVar 0)) (hc : X.calm = true) (hN : X.N.Nodup) (ok : BlkOk X.N X.env.scope scope [("key", 3)]) (hg : Blk X scope fun Y => PG Y tg (gName 3)) (hk : Blk X scope fun Y => PE Y kx (tVar 3))
    (hv : Blk X scope fun Y => PE Y vx (tCall spKf [] EX (tCons (tDGet (tVar 0) (tVar 3)) (tCons (tOp (rI0 fun i j => .int (i - j)) (tVar 1) (tC (.int 1))) tNil)))) (hs : ∀ x, foldedSetIterable iter X.env x = pure x := by intro _; rfl) :
    TrE X (.DictComp kx vx [⟨tg, iter, [], 0⟩] scope pos) fKD :=
  .of (pe_lock (pe_dc (own := [("key", 3)]) hc hN (pi_keys hi) ok hg (fun _ _ _ _ _ => pts_nil) hk hv hs)) ref_keptD
end Tr
set_option Elab.async false
set_option linter.all false
set_option maxRecDepth 100000
namespace Tr
open PySem PySem.Spec PyProof.Rows L2 Evl Kc Kz Kx
/-- what kept takes apart is not too long -/
def keptOk : Nat → D → Prop
  | 0, _ => True
  | n + 1, .list ds => ds.length ≤ 1000 ∧ ∀ d ∈ ds, keptOk n d
  | n + 1, .tuple ds => ds.length ≤ 1000 ∧ ∀ d ∈ ds, keptOk n d
  | _ + 1, .dict es => (es.all fun e => flatD e.2) = true ∧ (es.map (·.1)).Nodup ∧ es.length ≤ 1000
  | _ + 1, _ => True
/-- the tree, as it stood or anew -/
def KeptR (d : D) (r : AV) : Prop := r = .dat d ∨ r = .own false d
def F_never : FD := fun _ _ _ => False
def F_kept (n : Nat) : FD := fun as k _ => ∃ d : D, as = [.dat d, .dat (.int n)] ∧ keptOk n d ∧ ∀ r, KeptR d r → k r
def fb_kept (F : FD) : FS := (sCons (sIf (fTest (f2 gEq (fVar 1) (fC (.dat (.int (0)))))) (sRet (fVar 0)) sNil) (sCons (sIf (fTest (f1 (fun d k => k (.val (.bool (isT "list" d)))) (fVar 0))) (sRet (fLc [2] (iSeqA (fFrz 0)) (gN 2) fYes (fCall 2 F (fCons (fVar 2) (fCons (f2 (gI0 fun i j => .int (i - j)) (fVar 1) (fC (.dat (.int (1))))) fNil))))) sNil) (sCons (sIf (fTest (f1 (fun d k => k (.val (.bool (isT "tuple" d)))) (fVar 0))) (sRet (fB (g1 gTuple) (fCons (fLc [2] (iSeqA (fFrz 0)) (gN 2) fYes (fCall 2 F (fCons (fVar 2) (fCons (f2 (gI0 fun i j => .int (i - j)) (fVar 1) (fC (.dat (.int (1))))) fNil)))) fNil))) sNil) (sCons (sIf (fTest (f1 (fun d k => k (.val (.bool (isT "dict" d)))) (fVar 0))) (sRet (fKD)) sNil) (sRet (fVar 0))))))
abbrev OkK (k : AV → Prop) : EndsT := { nx := fun _ => k (.dat .none), rt := fun a ρ => rtK a ρ k }
theorem imp_kept0 : ∀ as k x, as.length = 2 → F_kept 0 as k x → fb_kept F_never (start0 4 as) (OkK k) fun c _ => x c := by
  rintro _ k x _ ⟨d, rfl, _, hk⟩
  exact ⟨⟨Mg.sh_int _, Mg.sh_int _⟩, hk _ (.inl rfl)⟩
abbrev CallK (n : Nat) : FE := fCall 2 (F_kept n) (fCons (fVar 2) (fCons (f2 (gI0 fun i j => .int (i - j)) (fVar 1) (fC (.dat (.int (1))))) fNil))
/-- all items are kept -/
theorem kept_items {n : Nat} {d0 : D} {ds : List D} {k : List D → S → Prop} (hl : ds.length ≤ 1000) (ok : ∀ d ∈ ds, keptOk n d) (h : k ds [some (.dat d0), some (.dat (.int ((n + 1 : Nat) : Int))), none, none]) :
    lcF [2] (gN 2) fYes (CallK n) ds [] [some (.dat d0), some (.dat (.int ((n + 1 : Nat) : Int))), none, none] k := by
  refine lcF_by (fun i acc ρ => ρ = [some (.dat d0), some (.dat (.int ((n + 1 : Nat) : Int))), none, none] ∧ acc = ds.take i) (fun i d acc ρ hd hI C' hC => ?_) (fun acc ρ hI => ?_) ⟨rfl, rfl⟩
  · obtain ⟨rfl, rfl⟩ := hI
    have li := (List.getElem?_eq_some_iff.mp hd).1
    have len : (ds.take i).length < sizeLine := Nat.lt_of_le_of_lt (List.length_take_le _ _) (Nat.lt_of_lt_of_le li (Nat.le_trans hl (by decide)))
    have fin : C' (ds.take i ++ [d]) [some (.dat d0), some (.dat (.int ((n + 1 : Nat) : Int))), none, none] := hC _ _ ⟨rfl, (K23.take_succ hd).symm⟩
    refine ⟨Nat.zero_le 1, rfl, d, ?_, ok d (List.mem_of_getElem? hd), fun r hr => ⟨.inl rfl, ?_⟩⟩
    · show [AV.dat d, .dat (.int (((n + 1 : Nat) : Int) - 1))] = _
      rw [show ((n + 1 : Nat) : Int) - 1 = (n : Int) by omega]
    · rcases hr with rfl | rfl
      · exact ⟨len, fin⟩
      · exact ⟨len, fin⟩
  · obtain ⟨rfl, rfl⟩ := hI
    rw [List.take_length]
    exact h
theorem imp_keptS (n : Nat) : ∀ as k x, as.length = 2 → F_kept (n + 1) as k x → fb_kept (F_kept n) (start0 4 as) (OkK k) fun c _ => x c := by
  rintro _ k x _ ⟨d, rfl, ok, hk⟩
  refine ⟨⟨Mg.sh_int _, Mg.sh_int _⟩, ?_⟩
  cases d with
  | list ds => exact .inl ⟨rfl, kept_items ok.1 ok.2 (hk _ (.inr rfl))⟩
  | tuple ds => exact .inr ⟨rfl, kept_items ok.1 ok.2 (hk _ (.inl rfl))⟩
  | dict es => exact ⟨es, _, rfl, rfl, ok.1, ok.2.1, ok.2.2, by show 3 < 4; decide, hk _ (.inr rfl)⟩
  | _ => exact hk _ (.inl rfl)
end Tr
set_option Elab.async false
set_option linter.all false
set_option maxRecDepth 100000
namespace Tr
open PySem PySem.Spec PyProof.Rows L2 Evl Kc Kz Kx
section
variable {K : PySem.W.Frag} {mg : Str → Option Value} {P : Program} {base : Heap} {w : World}
/-- fnTo for a def with defaults -/
theorem fnToD {nm qual : Str} {params : Arguments} {bd : List Stmt} {scope : Scope} {dvs : List V} {kws : List (Str × V)} {f : Addr} {fd : FuncData} {N ps : List Str} {k : Nat} {F : FD} {fb : FS} (Fn : FunD K nm qual params bd scope dvs kws f fd) (S : FnScope N ps scope)
    (body : ∀ (cdv : Value) (A : Around) (outer : List Env) (s : Shared) (H : Hp) (E : XK), Room k (A.deeper (envOfC qual scope s.heap.objs.size f cdv)) → TrB (cxOf (L2.CX P w) P w K mg base N qual scope f cdv A outer s H E) bd fb)
    (imp : ∀ as k x, as.length = ps.length → F as k x → fb (start0 N.length as) { nx := fun _ => k (.dat .none), rt := fun a ρ => rtK a ρ k } fun c _ => x c) :
    FnOk P w K mg base (L2.CX P w) (k + 1) f fd ps (spT K ps.length F) := by
  have pln : ps.length ≤ N.length := by
    have := congrArg List.length S.pre
    rw [List.length_take] at this
    omega
  refine Fn.ok S (fun vs H Q E h => ?_) fun cdv A outer s H vs Q E room want => ⟨_, pb_w, ?_⟩
  · obtain ⟨G, as, k, x, h1, _, h2, _⟩ := h
    rw [← h1]
    exact (Paired.length h2.hold).symm
  · obtain ⟨G, as, k, x, h1, h2, h3, h4, h5, h6⟩ := want
    have vl : vs.length ≤ N.length := by
      rw [← Paired.length h3.hold, h1]
      exact pln
    refine body cdv A outer s H E room (fun cls d _ H => E cls d H) ⟨vs, potPs as vs, H, G, fun _ => none⟩ _ G _ H _ { nx := fun _ => k (.dat .none), rt := fun a ρ => rtK a ρ k } (fun c _ => x c) ⟨takes_of rfl rfl rfl rfl, fun _ _ _ _ t => t⟩ (rel_start h2 h3 vl) (fun c ρ' G' σ' dd H' R q hx => ?_) ⟨fun ρ' G' σ' H' _ R hn => ?_, fun a ρ' G' σ' v H' _ R q hr => ?_, fun _ _ _ _ _ _ z => z.elim, fun _ _ _ _ _ _ z => z.elim⟩ (imp as k x h1 h4)
    · exact h6 c G' dd H' R.post q hx
    · exact h5 (.dat .none) G' .non H' R.post (.inl ⟨rfl, .non⟩) hn
    · obtain ⟨b, rb, hk⟩ := rtK_of R q hr
      exact h5 b G' v H' R.post rb hk
/-- a def that lets nothing out -/
theorem calmO {k : Nat} {f : Addr} {fd : FuncData} {ps : List Str} {sp : Sp} (F : FnOk P w K mg base (L2.CX P w) k f fd ps sp) : FnOk P w K mg base CX0 k f fd ps (fun vs H Q _ => sp vs H Q fun _ _ _ => False) :=
  ⟨fun vs H Q E h => F.len _ _ _ _ h, fun A outer s H args us vs Q E r e b v h => codeAny_mono (F.run A outer s H args us vs Q _ r e b v h) fun z s' got => by
    cases z with
    | error u =>
      obtain ⟨_, _, _, _, _, _, _, _, _, _, _, _, no⟩ := (show L2.CX P w outer H s (fun _ _ _ => False) u s' from got)
      exact no.elim
    | ok fl => cases fl <;> exact got⟩
abbrev psK : List Str := ["value", "levels"]
/-- kept of values without parts -/
structure KeptF (P : Program) (w : World) (K : PySem.W.Frag) (mg : Str → Option Value) (base : Heap) (l : Nat) : Prop where
  ex : ∃ f fd, FnOk P w K mg base CX0 l f fd psK spKf ∧ mg "kept" = some (.ref f) ∧ PySem.W.keepIn K (.ref f) = true ∧ Binds K fd psK []
theorem kept_ok {params : Arguments} {bd : List Stmt} {scope : Scope} {dvs : List V} {kws : List (Str × V)} {f : Addr} {fd : FuncData} (Fn : FunD K "kept" "kept" params bd scope dvs kws f fd) (S : FnScope ["value", "levels", "item", "key"] psK scope) (hm : mg "kept" = some (.ref f)) (bn : Binds K fd psK [])
    (rd : ∀ (F : FD) (lv : Nat), 1 ≤ lv → DefO P w K mg base "kept" psK lv F → ∀ (cdv : Value) (A : Around) (outer : List Env) (s : Shared) (H : Hp) (E : XK), Room lv (A.deeper (envOfC "kept" scope s.heap.objs.size f cdv)) → TrB (cxOf (L2.CX P w) P w K mg base ["value", "levels", "item", "key"] "kept" scope f cdv A outer s H E) bd (fb_kept F)) :
    ∀ n : Nat, FnOk P w K mg base (L2.CX P w) (n + 2) f fd psK (spT K 2 (F_kept n))
  | 0 => fnToD (F := F_kept 0) Fn S (rd F_never 1 (Nat.le_refl 1) ⟨⟨f, fd, ⟨(fun vs H Q E h => by obtain ⟨_, _, _, _, _, _, _, no, _⟩ := h; exact no.elim), (fun A outer s H args us vs Q E r e b v h => by obtain ⟨_, _, _, _, _, _, _, no, _⟩ := h; exact no.elim)⟩, hm, Fn.kp, bn⟩⟩) imp_kept0
  | n + 1 => fnToD (F := F_kept (n + 1)) Fn S (rd (F_kept n) (n + 2) (by omega) ⟨⟨f, fd, kept_ok Fn S hm bn rd n, hm, Fn.kp, bn⟩⟩) (imp_keptS n)
/-- kept of a tree, by its default -/
def spKT (K : PySem.W.Frag) : Sp := fun vs H Q _ => spT K 2 (F_kept 5) vs H Q fun _ _ _ => False
theorem kt_mono (vs : List V) (H : Hp) (Q Q' : VK) (E : XK) (h : ∀ v H', Q v H' → Q' v H') (q : spKT K vs H Q E) : spKT K vs H Q' E := by
  obtain ⟨G, as, k, x, h1, h2, h3, h4, h5, h6⟩ := q
  exact ⟨G, as, k, x, h1, h2, h3, h4, fun r G' v H' p rr hk => h _ _ (h5 r G' v H' p rr hk), h6⟩
end
/-- the class c of the program: an error of one field that keeps a tree -/
structure ErT (P : Program) (w : World) (K : PySem.W.Frag) (mg : Str → Option Value) (base : Heap) (c : Str) (D : Addr) (fl x : Str) (lv : Nat) : Prop where
  T : ∃ (B newId initId : String) (tail : List Value), OexB K D B newId initId tail
  mgE : mg c = some (.ref D)
  ini : ∃ fI fd, PySem.W.findIn K (.ref D) "__init__" = some (some (.ref fI)) ∧ PySem.W.typeIn K (.ref fI) = some (.type "function") ∧ FnOk P w K mg base CX0 lv fI fd ["self", x] (spErr1 D fl (spKT K)) ∧ Binds K fd ["self", x] []
def sRaiseT (D : Addr) (fl : Str) (fr : FA) : FS := fun ρ _ x => fr ρ (fun as ρ1 => dats as fun ds => match ds with | [d] => keptOk 5 d ∧ x ⟨D, [(fl, d)]⟩ ρ1 | _ => False) x
/-- what is left of the heap when such an error was made and is let go -/
theorem made_two {H : Hp} {a dx D : Addr} {fl : Str} {v : V} (nd : dx ≠ a) : upd (del (upd (upd H dx (exd dx [(fl, v)])) a (exo a D (some dx))) a) dx (.xd [(fl, v)]) = upd (del H a) dx (.xd [(fl, v)]) := by
  funext b
  by_cases h1 : b = dx
  · rw [h1, upd_same, upd_same]
  · rw [upd_ne h1, upd_ne h1]
    by_cases h2 : b = a
    · rw [h2, del_same, del_same]
    · rw [del_ne h2, del_ne h2, upd_ne h2, upd_ne h1]
theorem ts_raiseT {X : Cx} {P : Program} {w : World} {K : PySem.W.Frag} {mg : Str → Option Value} {base : Heap} {c x fl : Str} {D : Addr} {lv k : Nat} {e : Expr} {fr : FA} {p pos rpos : Pos} (d : ErT P w K mg base c D fl x lv) (i : In X P w K mg base) (hc : X.calm = true) (hr : Room k X.A) (hk : lv + 1 ≤ k) (hg : Gl X c) (ha : TrA X [e] fr)
    (hdb : (c == ("__debug__" : Str)) = false := by decide) (he : starEach [e] X.env = [(false, eval e X.env)] := by rfl) : TrS X (.Raise (some (.Call (.Name c p) [e] [] pos)) none rpos) (sRaiseT D fl fr) := by
  obtain ⟨rfl, rfl, rfl, rfl, rfl⟩ := i
  obtain ⟨fI, fd, iC, tI, ok, bd⟩ := d.ini
  obtain ⟨_, _, _, _, T⟩ := d.T
  intro W E ρ G σ H M N y tk R lx lk hf pins s I
  refine (ps_raise hc tk.1 (pmk_oexb T iC tI ok (hr.mono hk) bd .nil pass0 hg d.mgE pa_w hdb he rfl)).run pins s σ H M I ?_
  refine ha W E ρ G σ H _ _ y tk R lx (fun as ρ1 G1 vs H1 e1 R1 q1 h1 => ?_) hf
  obtain ⟨ds, rp, h1⟩ := dats_rps q1 h1
  cases rp with
  | nil => exact h1.elim
  | @cons v dd _ _ rv t =>
    cases t with
    | cons _ _ => exact h1.elim
    | nil =>
      obtain ⟨kd, hx⟩ := h1
      have ga : ∀ a, H1 a = none → G1 a = none := fun a na => R1.g0 na
      refine ⟨by show 1 ≤ 1000; decide, fun a na => ⟨a, v, rfl, upd_same, ?_⟩⟩
      have up : Ex H1 (upd H1 a (exo a D none)) := fun b o e => by rw [upd_ne (ne_of_none e na)]; exact e
      refine ⟨G1, [.dat dd, .dat (.int 5)], KeptR dd, fun _ => False, rfl, R1.sub.trans up, ⟨.cons rv (.cons (.int 5) .nil), fun b hb yo => ?_, (fun i j b c u n h1 h2 o1 _ _ _ => ?_), R1.gno⟩, ⟨dd, rfl, kd, fun r hr => hr⟩, fun r G' v' H' po rr hr => ?_, fun _ _ _ _ _ _ z => z.elim⟩
      · rcases List.mem_cons.mp hb with rfl | hq
        · cases yo
        · cases List.mem_singleton.mp hq
          cases yo
      · rcases List.mem_cons.mp (List.mem_of_getElem? h1) with rfl | hb
        · cases o1
        · cases List.mem_singleton.mp hb
          cases o1
      have keep : Kept (TN X.K) [] (upd H1 a (exo a D none)) H' := po.but
      have hex : H' a = some (exo a D none) := keep.but a _ nofun upd_same (fun qs z => by unfold exo at z; cases z)
      have g'a : G' a = none := by
        cases z : G' a with
        | none => rfl
        | some o =>
          rcases po.new a o z with q | q
          · rw [ga a na] at q; cases q
          · rw [upd_same] at q; cases q
      -- what was kept, in a part that stays
      obtain ⟨G2, r2, x2, s2, n2, ga2, gn2⟩ : ∃ G2, Rp X.K G2 v' dd ∧ Ex G' G2 ∧ Ex G2 H' ∧ (∀ b o, G2 b = some o → G' b = some o ∨ upd H1 a (exo a D none) b = none) ∧ G2 a = none ∧ ∀ b qs, G2 b ≠ some (.tbl qs) := by
        rcases hr with rfl | rfl
        · rcases rr with ⟨_, hh⟩ | ⟨z, _⟩
          · exact ⟨G', hh, Ex.refl G', po.sub, (fun b o e => .inl e), g'a, po.gno⟩
          · cases z
        · rcases rr with ⟨z, _⟩ | ⟨_, _, q, rfl, gq, st, hq⟩
          · cases z
          · have qa : q ≠ a := fun z => by rw [z, upd_same] at hq; cases hq
            have key : ∀ o, H' q = some o → Ex G' (upd G' q o) ∧ Ex (upd G' q o) H' ∧ (∀ b u, upd G' q o b = some u → G' b = some u ∨ upd H1 a (exo a D none) b = none) ∧ upd G' q o a = none := fun o eo => by
              refine ⟨fun b u z => by rw [upd_ne (ne_of_none z gq)]; exact z, fun b u z => ?_, fun b u z => ?_, by rw [upd_ne qa.symm]; exact g'a⟩
              · by_cases hb : b = q
                · rw [hb, upd_same] at z
                  cases z
                  rw [hb]
                  exact eo
                · rw [upd_ne hb] at z
                  exact po.sub b u z
              · by_cases hb : b = q
                · rw [hb]
                  exact .inr hq
                · rw [upd_ne hb] at z
                  exact .inl z
            have st : Own X.K G' H' q dd := st
            cases dd with
            | list ds =>
              obtain ⟨xs, f1, f2⟩ := st
              obtain ⟨k1, k2, k3, k4⟩ := key _ f1
              exact ⟨_, .lst upd_same (f2.mono k1), k1, k2, k3, k4, gno_upd po.gno nofun⟩
            | dict es =>
              obtain ⟨xs, f1, f2⟩ := st
              obtain ⟨k1, k2, k3, k4⟩ := key _ f1
              exact ⟨_, .dct upd_same (f2.mono k1), k1, k2, k3, k4, gno_upd po.gno nofun⟩
            | _ => exact st.elim
      refine ⟨hex, fun dx n1 n2' => ⟨rfl, dx, [(fl, v')], upd_same, ?_, ?_, ?_⟩⟩
      · rw [upd_ne n2', upd_same]
      · cases z : H1 dx with
        | none => rfl
        | some o => obtain ⟨u, eu⟩ := keep.any nofun (up dx o z); rw [eu] at n1; cases n1
      · rw [made_two n2']
        have R2 : Rel X.K E ρ1 G2 σ (del H' a) := by
          refine R1.ext gn2 ((keep.under up).butOne (.inr na) (mut_exo hex) fun b e => del_ne e) (po.grow.trans x2) (fun b o e => ?_) fun b o e => ?_
          · have ba : b ≠ a := ne_of_none e ga2
            rw [del_ne ba]
            exact s2 b o e
          · have ba : b ≠ a := ne_of_none e ga2
            rcases n2 b o e with z | z
            · rcases po.new b o z with y | y
              · exact .inl y
              · rw [upd_ne ba] at y
                exact .inr y
            · rw [upd_ne ba] at z
              exact .inr z
        have nx : del H' a dx = none := by rw [del_ne n2']; exact n1
        obtain ⟨R3, e3⟩ := R2.made (o := .xd [(fl, v')]) nx
        exact lx ⟨D, [(fl, dd)]⟩ ρ1 _ σ dx _ R3 ⟨[(fl, v')], upd_same, .cons ⟨rfl, r2.mono e3⟩ .nil⟩ hx
end Tr
set_option Elab.async false
set_option linter.all false
set_option maxRecDepth 100000
namespace Tr
open PySem PySem.Spec PyProof.Rows L2 Evl Kc Kz Kx
section
open AutoSeq1 (wpAny_loadPart')
open MeetsSeq MeetsSeq2 MeetsSeq3 SeqRoads2 SeqAt
variable {P : Program} {w : World}
/-- the list at a, of these items -/
abbrev lstO (us : Array Value) (n : Nat) (d : Option Addr) (z : Array (Option Value)) : Obj := { cls := .type "list", dict := d, data := .seq us n, slots := z }
/-- != of two lists, from place i on, all items equal -/
theorem ne_same {a b : Addr} {us ws : Array Value} {n m : Nat} {d d' : Option Addr} {z z' : Array (Option Value)} (sz : us.size = ws.size) : ∀ left i : Nat, us.size - i = left → MeetsIn P w (Builtin.«list.__eq__.loop» ⟨[.ref a, .ref b, rawInt i, rawInt 3], []⟩)
      (fun A R s => s.heap.get? a = some (lstO us n d z) ∧ s.heap.get? b = some (lstO ws m d' z') ∧ (∀ j (p : j < us.size) (q : j < ws.size), EqP P w A.in1 s us[j] ws[j] true) ∧ R (.ok (.ret (.bool false))) s) := by
  intro left
  induction left with
  | zero =>
    intro i e A R ⟨h0, g0, r0, t0, o0⟩ ⟨ha, hb, _, fin⟩
    wp_walk using wpAny_loadPart' ha, wpAny_loadPart' hb
    have na : us[((i : Nat) : Int).toNat]? = none := by
      rw [Array.getElem?_eq_none_iff]
      show us.size ≤ i
      omega
    have nb : ws[((i : Nat) : Int).toNat]? = none := by
      rw [Array.getElem?_eq_none_iff]
      show ws.size ≤ i
      omega
    rw [na, nb]
    wp_walk using wpAny_loadPart' ha, wpAny_loadPart' hb
    show R (.ok (.ret (.bool (us.size != ws.size)))) _
    rw [show (us.size != ws.size) = false by rw [sz]; exact bne_self_eq_false _]
    exact fin
  | succ left ih =>
    intro i e A R ⟨h0, g0, r0, t0, o0⟩ ⟨ha, hb, eq, fin⟩
    wp_walk using wpAny_loadPart' ha, wpAny_loadPart' hb
    have ia : i < us.size := by omega
    have ib : i < ws.size := by omega
    have ga : us[((i : Nat) : Int).toNat]? = some us[i] := Array.getElem?_eq_getElem ia
    have gb : ws[((i : Nat) : Int).toNat]? = some ws[i] := Array.getElem?_eq_getElem ib
    rw [ga, gb]
    refine wpAny_bind (eq i ia ib _ _ ?_)
    wp_walk
    rw [show ((i : Int) + 1) = ((i + 1 : Nat) : Int) by omega]
    refine ⟨plainId_quiet plain_eq_loop _, codeAny_builtin entry_eq_loop ?_⟩
    rw [Around.under_plainId plain_eq_loop]
    exact ih (i + 1) (by omega) A R _ ⟨ha, hb, eq, fin⟩
theorem ne_list {a b : Addr} {us ws : Array Value} {n m : Nat} {d d' : Option Addr} {z z' : Array (Option Value)} (sz : us.size = ws.size) : MeetsIn P w (Builtin.«list.__ne__» ⟨[.ref a, .ref b], []⟩)
      (fun A R s => s.heap.get? a = some (lstO us n d z) ∧ s.heap.get? b = some (lstO ws m d' z') ∧ (∀ j (p : j < us.size) (q : j < ws.size), EqP P w A.in1 s us[j] ws[j] true) ∧ R (.ok (.ret (.bool false))) s) := by
  intro A R ⟨h0, g0, r0, t0, o0⟩ ⟨ha, hb, eq, fin⟩
  have sub := AutoSeq1.sub_list_list
  have no : ¬ (us.size != ws.size) = true := by rw [sz, bne_self_eq_false]; decide
  wp_walk using wpAny_loadPart' ha, wpAny_loadPart' hb
  refine ⟨plainId_quiet plain_eq_loop _, codeAny_builtin entry_eq_loop ?_⟩
  rw [Around.under_plainId plain_eq_loop]
  exact ne_same sz _ 0 rfl A R _ ⟨ha, hb, eq, fin⟩
theorem rc_ne {A : Around} {s : Shared} {a b : Addr} {us ws : Array Value} (ha : s.heap.IsList a us) (hb : s.heap.IsList b ws) (sz : us.size = ws.size) (hu : A.units < cLine) (eq : ∀ j (p : j < us.size) (q : j < ws.size), EqP P w A.in1 s us[j] ws[j] true)
    (E Q : Value → Shared → Prop) (fin : Q (.bool false) s) : wpAny (model P w) A (richCompare .NotEq (.ref a) (.ref b)) Q E s := by
  obtain ⟨⟨c1, d1, t1, z1⟩, e1, k1, n1, y1⟩ := id ha
  obtain ⟨⟨c2, d2, t2, z2⟩, e2, k2, n2, y2⟩ := id hb
  dsimp only at k1 y1 k2 y2
  subst k1 y1 k2 y2
  have Ta : s.TypeIs (.ref a) "list" := ⟨_, e1, rfl⟩
  have Tb : s.TypeIs (.ref b) "list" := ⟨_, e2, rfl⟩
  refine wpAny_richCompare_same_room (op := .NotEq) Ta Tb F.slot_list_ne (call_meetsIn F.slot_list_ne Ta F.entry_list_ne (F.args_list_ne_2 _ _) (ne_list (n := n1) (m := n2) (d := d1) (d' := d2) (z := z1) (z' := z2) sz) ?_) hu
  exact ⟨e1, e2, eq, (show Value.bool false ≠ Value.notImplemented ∧ Q (.bool false) s from ⟨(fun q => nomatch q), fin⟩)⟩
end
/-- a tree of at most so many levels, each key of a dict once -/
def eqOk : Nat → D → Prop
  | 0, _ => False
  | n + 1, .list ds => ∀ d ∈ ds, eqOk n d
  | n + 1, .tuple ds => ∀ d ∈ ds, eqOk n d
  | n + 1, .dict es => (es.map (·.1)).Nodup ∧ ∀ e ∈ es, eqOk n e.2
  | _ + 1, _ => True
/-- both are the same tree -/
def Both (K : PySem.W.Frag) (H : Hp) (n : Nat) (x y : V) : Prop := ∃ d, eqOk n d ∧ Rp K H x d ∧ Rp K H y d
theorem both_list {K : PySem.W.Frag} {H : Hp} {n : Nat} : ∀ {xs ys : List V} {ds : List D}, Rps K H xs ds → Rps K H ys ds → (∀ d ∈ ds, eqOk n d) → Paired (Both K H n) xs ys
  | _, _, _, .nil, .nil, _ => .nil
  | _, _, _, .cons a t, .cons b u, h => .cons ⟨_, h _ List.mem_cons_self, a, b⟩ (both_list t u fun d hd => h d (List.mem_cons_of_mem _ hd))
theorem both_vals {K : PySem.W.Frag} {H : Hp} {n : Nat} : ∀ {ks ls : List (Key × V)} {es : List (D × D)}, Rpk K H ks es → Rpk K H ls es → (es.map (·.1)).Nodup → (∀ e ∈ es, eqOk n e.2) → ∀ p ∈ ks, ∃ u, valV ls p.1 = some u ∧ Both K H n p.2 u
  | _, _, _, .nil, .nil, _, _, p, hp => by cases hp
  | _, _, _, .cons (k := k1) (ds := ds) a t, r2, nd, h, p, hp => by
    generalize hk : kD k1 = kk at r2 nd h
    cases r2 with
    | @cons k2 v2 _ vs2 _ b u =>
      have e12 : k1 = k2 := kD_inj hk
      subst e12
      simp only [List.map_cons, List.nodup_cons] at nd
      rcases List.mem_cons.mp hp with rfl | hp2
      · exact ⟨v2, valV_pos rfl, _, h _ List.mem_cons_self, a, b⟩
      · obtain ⟨u', e, q⟩ := both_vals t u nd.2 (fun e he => h e (List.mem_cons_of_mem _ he)) p hp2
        refine ⟨u', (valV_neg fun z => nd.1 ?_).trans e, q⟩
        rw [rpk_keys t]
        exact List.mem_map.mpr ⟨p, hp2, by rw [← z]⟩
section
variable {X : Cx} {H : Hp} {σ : L2.St} {pins : List (Addr × Obj)} {s : Shared}
theorem eq_tree (I : Inv X pins σ H s) : ∀ (n : Nat) (A : Around), A.units + n < cLine → ∀ (x y : V) (v u : Value), Both X.K H n x y → RelV x v → RelV y u → SeqAt.EqP X.prog X.w A s v u true
  | 0, _, _, _, _, _, _, ⟨_, no, _⟩, _, _ => no.elim
  | n + 1, A, hu, x, y, v, u, ⟨d, ok, hx, hy⟩, rx, ry => by
    have ih := eq_tree I n A.in1 (by show A.units + 1 + n < cLine; omega)
    have refs : ∀ a b, x = .ref a → y = .ref b → (a ≠ b → ∀ (E Q : Value → Shared → Prop), Q (.bool true) s → wpAny (model X.prog X.w) A (richCompare .Eq (.ref a) (.ref b)) Q E s) → SeqAt.EqP X.prog X.w A s v u true := fun a b e1 e2 h => by
      subst e1 e2
      have rx' : v = Value.ref a := rx
      subst rx'
      have ry' : u = Value.ref b := ry
      subst ry'
      by_cases z : a = b
      · rw [z]
        exact (SeqAt.EqAt.same _).eqP
      · exact SeqAt.eqP_refs z (h z)
    cases hx with
    | non => cases hy; exact (eqAt_same rx ry rfl).eqP
    | bl b => cases hy; exact (eqAt_same rx ry rfl).eqP
    | int i => cases hy; exact (eqAt_same rx ry rfl).eqP
    | str z => cases hy; exact (eqAt_same rx ry rfl).eqP
    | @lst a xs ds ga ra =>
      cases hy with
      | @lst b ys _ gb rb =>
        refine refs a b rfl rfl fun _ E Q q => ?_
        obtain ⟨us, r1, p1, _⟩ := I.list (.inl (.inl ga))
        obtain ⟨ws, r2, p2, _⟩ := I.list (.inl (.inl gb))
        have pr := both_list ra rb ok
        refine SeqAt.rcP_lists (e := fun _ => true) p1.isList p2.isList (by rw [List.size_toArray, List.size_toArray, ← r1.length, ← r2.length]; exact Paired.length pr) (by omega) (fun j h1 h2 => ?_) E Q ?_
        · exact items_run ih pr r1 r2 j (by rw [List.size_toArray] at h1; exact h1) (by rw [List.size_toArray] at h2; exact h2)
        · rw [List.all_eq_true.mpr fun _ _ => rfl]
          exact q
    | @tup a xs ds ga ra =>
      cases hy with
      | @tup b ys _ gb rb =>
        refine refs a b rfl rfl fun _ E Q q => ?_
        obtain ⟨us, r1, p1, _⟩ := I.tuple ga
        obtain ⟨ws, r2, p2, _⟩ := I.tuple gb
        have pr := both_list ra rb ok
        have len : us.length = ws.length := by rw [← r1.length, ← r2.length]; exact Paired.length pr
        refine SeqAt.rcIn_tuples (e := fun _ => true) p1 p2 (by omega) (fun j h1 h2 => ?_) ?_
        · exact items_run ih pr r1 r2 j (by rw [List.size_toArray] at h1; exact h1) (by rw [List.size_toArray] at h2; exact h2)
        · rw [List.all_eq_true.mpr fun _ _ => rfl, List.size_toArray, List.size_toArray, len, beq_self_eq_true]
          exact q
    | @dct a ks es ga ra =>
      cases hy with
      | @dct b ls _ gb rb =>
        refine refs a b rfl rfl fun _ E Q q => ?_
        obtain ⟨_, ya, va, qa, da⟩ := (show ObjOk X.prog X.w H s.heap a (.dK ks) from I.hok a _ ga)
        obtain ⟨_, yb, vb, qb, db⟩ := (show ObjOk X.prog X.w H s.heap b (.dK ls) from I.hok b _ gb)
        refine PySem.W.rcP_dicts (knd := mixKind X.prog X.w) (r := true) ya yb da db (by omega) (fun _ => hits_run ih qb qa (both_vals ra rb ok.1 ok.2)) E Q ?_
        have len : va.length = vb.length := by rw [← qa.length, ← qb.length, ra.len, rb.len]
        rw [len, beq_self_eq_true]
        exact q
end
section
variable {X : Cx} {fa fb : FE} {a b : Expr} {pos : Pos}
theorem OpR.or {f : Value → Value → Sem Value} {r1 r2 : R2} (h1 : OpR X f r1) (h2 : OpR X f r2) : OpR X f (fun x y H Q => r1 x y H Q ∨ r2 x y H Q) := fun pins s σ H x y v u Q I rx ry h => h.elim (h1 pins s σ H x y v u Q I rx ry) (h2 pins s σ H x y v u Q I rx ry)
theorem Y2.or {K : PySem.W.Frag} {r1 r2 : R2} {g1 g2 : Op2} (h1 : Y2 K r1 g1) (h2 : Y2 K r2 g2) : Y2 K (fun x y H Q => r1 x y H Q ∨ r2 x y H Q) (fun d e k => g1 d e k ∨ g2 d e k) := fun G H x y d e s hx hy Q k o h => h.elim (fun z => .inl (h1 G H x y d e s hx hy Q k o z)) fun z => .inr (h2 G H x y d e s hx hy Q k o z)
/-- != of two lists that are the same tree -/
def rNeS (K : PySem.W.Frag) : R2 := fun x y H Q => ∃ p q xs ys, x = .ref p ∧ y = .ref q ∧ SqL K H p xs ∧ SqL K H q ys ∧ Paired (Both K H 50) xs ys ∧ Q (.bl false) H
theorem op_neS (hu : X.A.units + 64 < cLine) : OpR X (compareOp .NotEq) (rNeS X.K) := fun pins s σ H x y v u Q I rx ry h => by
  obtain ⟨p, q, xs, ys, rfl, rfl, hp, hq, pr, h⟩ := h
  have rx' : v = Value.ref p := rx
  subst rx'
  have ry' : u = Value.ref q := ry
  subst ry'
  obtain ⟨us, r1, p1, _⟩ := I.list hp
  obtain ⟨ws, r2, p2, _⟩ := I.list hq
  refine rc_ne p1.isList p2.isList (by rw [List.size_toArray, List.size_toArray, ← r1.length, ← r2.length]; exact Paired.length pr) (by omega) (fun j h1 h2 => ?_) _ _ ⟨.bl false, H, I, rfl, h⟩
  exact items_run (eq_tree I 50 X.A.in1 (by show X.A.units + 1 + 50 < cLine; omega)) pr r1 r2 j (by rw [List.size_toArray] at h1; exact h1) (by rw [List.size_toArray] at h2; exact h2)
def gNeS : Op2 := fun d e k => ∃ ds : List D, d = .list ds ∧ e = .list ds ∧ (∀ c ∈ ds, eqOk 50 c) ∧ k (.val (.bool false))
theorem y_neS {K : PySem.W.Frag} : Y2 K (rNeS K) gNeS := fun G H x y d e s hx hy Q k o h => by
  obtain ⟨ds, rfl, rfl, ok, hk⟩ := h
  obtain ⟨p, xs, rfl, hp, rp⟩ := hx.lsts s
  obtain ⟨q, ys, rfl, hq, rq⟩ := hy.lsts s
  exact ⟨p, q, xs, ys, rfl, rfl, .inl (.inl hp), .inl (.inl hq), both_list (rp.mono s) (rq.mono s) ok, o.val _ _ (.bl _) hk⟩
abbrev gNeX : Op2 := fun d e k => gNe d e k ∨ gNeS d e k
end
end Tr
set_option Elab.async false
set_option linter.all false
set_option maxRecDepth 100000
namespace KF
open PySem PySem.Spec PyProof.Rows L2 Evl Kc Kz Kx Tr Mg K23 K22 K27 K24 KA KB
abbrev exV (Dv : Addr) (d : D) : Exn := ⟨Dv, [("version", d)]⟩
end KF
set_option Elab.async false
set_option linter.all false
set_option maxRecDepth 100000
set_option maxHeartbeats 4000000
namespace KF
open PySem PySem.Spec PyProof.Rows L2 Evl Kc Kz Kx Tr Mg K23 K22 K27 K24 KA KB
end KF
set_option Elab.async false
set_option linter.all false
set_option maxRecDepth 100000
namespace KF
open PySem PySem.Spec PyProof.Rows L2 Evl Kc Kz Kx Tr Mg K23 K22 K27 K24 KA KB
end KF
set_option Elab.async false
set_option linter.all false
set_option maxRecDepth 100000
namespace KF
open PySem PySem.Spec PyProof.Rows L2 Evl Kc Kz Kx Tr Mg K23 K22 K27 K24 KA KB
end KF
set_option Elab.async false
set_option linter.all false
set_option maxRecDepth 100000
namespace KB
open PySem PySem.Spec PyProof.Rows L2 Evl Kc Kz Kx Tr Mg K23 K22 K27 K24 KA
end KB
set_option Elab.async false
set_option linter.all false
set_option maxRecDepth 100000
namespace KB
open PySem PySem.Spec PyProof.Rows L2 Evl Kc Kz Kx Tr Mg K23 K22 K27 K24 KA
abbrev stW (rows : List Mg.Row) (vs : List (List D)) (w : Int) (c4 c5 c6 : Option AV) : S := [some (.pot true), some (.dat (flD rows)), some (.dat (tups vs)), some (.dat (.int w)), c4, c5, c6, none, none]
end KB
set_option Elab.async false
set_option linter.all false
set_option maxRecDepth 100000
namespace KB
open PySem PySem.Spec PyProof.Rows L2 Evl Kc Kz Kx Tr Mg K23 K22 K27 K24 KA
end KB
set_option Elab.async false
set_option linter.all false
set_option maxRecDepth 100000
namespace KF
open PySem PySem.Spec PyProof.Rows L2 Evl Kc Kz Kx Tr Mg K23 K22 K27 K24 KA KB
section
variable {C : Addr} {rows : List Mg.Row} {vs : List (List D)} {c4 c5 c6 c7 c8 c9 c10 c11 : Option AV} {a b c : D} {R : FS} {N : EndsT} {x : KX}
def bads (rows : List Mg.Row) (ds : List D) : List D := ds.filter fun d => !versionB rows d
theorem sh_nil : SeqAt.shaped (.list []) = true := by decide +kernel
end
end KF
set_option Elab.async false
set_option linter.all false
set_option maxRecDepth 100000
namespace Tr
open PySem PySem.Spec PyProof.Rows L2 Evl Kc Kz Kx
section
variable {X : Cx} {o e e2 : Expr} {fa fb : FE} {fr : FA} {apos cpos pos p q : Pos}
/-- z.split(y) -/
def gSplit : D → List D → (Out → Prop) → Prop := fun d es k =>
  match d, es with
  | .str a, [.str b] => (b.length == 0) = false ∧ a.length + 2 ≤ sizeLine ∧ k (.newl ((Txt.split a b).map PyData.str))
  | _, _ => False
theorem rps_strs {K : PySem.W.Frag} {G : Hp} : ∀ ys : List Str, Rps K G (ys.map V.str) (ys.map PyData.str)
  | [] => .nil
  | y :: ys => .cons (.str y) (rps_strs ys)
theorem xe_split (ho : TrE X o fa) (ha : TrA X [e] fr) (hbase : attributeBase o "split" X.env (eval o X.env) = eval o X.env := by rfl)
    (hfew : ((backTo cpos (starEach [e] X.env)).all (fun x => !x.1) && (backToKw cpos (keywordEach [] X.env)).all (fun x => x.1.isSome) && decide ([e].length + ([] : List Keyword).length + (if ([] : List Keyword).isEmpty then 0 else 1) < 30)) = true := by rfl)
    (hs : starEach [e] X.env = (false, eval e X.env) :: starEach [] X.env := by rfl) (hline : (apos.endLine == cpos.line) = true := by rfl) (hplain : (backTo cpos (starEach [] X.env)).any (·.1) = false := by rfl) :
    TrE X (.Call (.Attribute o "split" apos) [e] [] cpos) (fMeth gSplit fa fr) := .of (pe_bm PySem.F.plainAttrs_str PySem.F.slot_str_split PySem.F.type_str_split mt_split pe_w pa_w hbase hfew hline hs hplain) (ref_strM (fun G H z vs ds s pr Q k o h => by
  match ds, pr, h with
  | [.str b], pr, h =>
    obtain ⟨v, rfl, hv⟩ := pair1 pr
    obtain rfl := hv.strs
    exact ⟨z, b, rfl, rfl, h.1, h.2.1, fun p n => o.newl p _ _ n (rps_strs _) h.2.2⟩) ho ha)
/-- z.removeprefix(y) -/
def gCutPre : D → List D → (Out → Prop) → Prop := fun d es k =>
  match d, es with
  | .str a, [.str b] => a.length ≤ sizeLine ∧ k (.val (.str (Txt.removeprefix a b)))
  | _, _ => False
theorem xe_cutPre (ho : TrE X o fa) (ha : TrA X [e] fr) (hbase : attributeBase o "removeprefix" X.env (eval o X.env) = eval o X.env := by rfl)
    (hfew : ((backTo cpos (starEach [e] X.env)).all (fun x => !x.1) && (backToKw cpos (keywordEach [] X.env)).all (fun x => x.1.isSome) && decide ([e].length + ([] : List Keyword).length + (if ([] : List Keyword).isEmpty then 0 else 1) < 30)) = true := by rfl)
    (hs : starEach [e] X.env = (false, eval e X.env) :: starEach [] X.env := by rfl) (hline : (apos.endLine == cpos.line) = true := by rfl) (hplain : (backTo cpos (starEach [] X.env)).any (·.1) = false := by rfl) :
    TrE X (.Call (.Attribute o "removeprefix" apos) [e] [] cpos) (fMeth gCutPre fa fr) := .of (pe_bm PySem.F.plainAttrs_str PySem.F.slot_str_removeprefix PySem.F.type_str_removeprefix mt_removeprefix pe_w pa_w hbase hfew hline hs hplain) (ref_strM (fun G H z vs ds s pr Q k o h => by
  match ds, pr, h with
  | [.str b], pr, h =>
    obtain ⟨v, rfl, hv⟩ := pair1 pr
    obtain rfl := hv.strs
    exact ⟨z, b, rfl, rfl, h.1, o.val _ _ (.str _) h.2⟩) ho ha)
/-- z.startswith(y) -/
def gStarts : D → List D → (Out → Prop) → Prop := fun d es k =>
  match d, es with
  | .str a, [.str b] => k (.val (.bool (Txt.startswith a b)))
  | _, _ => False
theorem xe_starts (ho : TrE X o fa) (ha : TrA X [e] fr) (hbase : attributeBase o "startswith" X.env (eval o X.env) = eval o X.env := by rfl)
    (hfew : ((backTo cpos (starEach [e] X.env)).all (fun x => !x.1) && (backToKw cpos (keywordEach [] X.env)).all (fun x => x.1.isSome) && decide ([e].length + ([] : List Keyword).length + (if ([] : List Keyword).isEmpty then 0 else 1) < 30)) = true := by rfl)
    (hs : starEach [e] X.env = (false, eval e X.env) :: starEach [] X.env := by rfl) (hline : (apos.endLine == cpos.line) = true := by rfl) (hplain : (backTo cpos (starEach [] X.env)).any (·.1) = false := by rfl) :
    TrE X (.Call (.Attribute o "startswith" apos) [e] [] cpos) (fMeth gStarts fa fr) := .of (pe_bm PySem.F.plainAttrs_str PySem.F.slot_str_startswith PySem.F.type_str_startswith mt_startswith pe_w pa_w hbase hfew hline hs hplain) (ref_strM (fun G H z vs ds s pr Q k o h => by
  match ds, pr, h with
  | [.str b], pr, h =>
    obtain ⟨v, rfl, hv⟩ := pair1 pr
    obtain rfl := hv.strs
    exact ⟨z, b, rfl, rfl, o.val _ _ (.bl _) h⟩) ho ha)
end
end Tr
namespace Tr
open PySem PySem.Spec PyProof.Rows L2 Evl Kc Kz Kx
section
variable {X : Cx} {o e a b : Expr} {fa fb : FE} {fr : FA} {apos cpos pos p1 p2 p3 : Pos}
/-- z.index(y), y in z -/
theorem mt_spot : MtR X "str.index" (fun x xs H Q => ∃ (a b : Str) (k : Nat), x = .str a ∧ xs = [.str b] ∧ Txt.index0 a b = some k ∧ Q (.int (k : Nat)) H) := fun pins s σ H x xs v us Q I rx rs h => by
  obtain ⟨a, b, k, rfl, rfl, at_, h⟩ := h
  obtain ⟨t, ev⟩ := (show ∃ t, v = Value.str a t from rx)
  subst ev
  match us, rs with
  | [_], .cons r .nil =>
    obtain ⟨u, eu⟩ := (show ∃ u, _ = Value.str b u from r)
    subst eu
    unfold Txt.index0 at at_
    generalize q : Builtin.Str.occurrences a b 0 a.length 1 = os at at_
    match os, q, at_ with
    | [], q, at_ => cases at_
    | m :: rest, q, at_ =>
      have e : m = k := Option.some.inj at_
      exact PySem.SC.index q ⟨.int (m : Nat), H, I.tok _, ⟨_, rfl⟩, by rw [e]; exact h⟩
def gSpot : D → List D → (Out → Prop) → Prop := fun d es k =>
  match d, es with
  | .str a, [.str b] => ∃ m, Txt.index0 a b = some m ∧ k (.val (.int (m : Nat)))
  | _, _ => False
theorem xe_spot (ho : TrE X o fa) (ha : TrA X [e] fr) (hbase : attributeBase o "index" X.env (eval o X.env) = eval o X.env := by rfl)
    (hfew : ((backTo cpos (starEach [e] X.env)).all (fun x => !x.1) && (backToKw cpos (keywordEach [] X.env)).all (fun x => x.1.isSome) && decide ([e].length + ([] : List Keyword).length + (if ([] : List Keyword).isEmpty then 0 else 1) < 30)) = true := by rfl)
    (hs : starEach [e] X.env = (false, eval e X.env) :: starEach [] X.env := by rfl) (hline : (apos.endLine == cpos.line) = true := by rfl) (hplain : (backTo cpos (starEach [] X.env)).any (·.1) = false := by rfl) :
    TrE X (.Call (.Attribute o "index" apos) [e] [] cpos) (fMeth gSpot fa fr) := .of (pe_bm PySem.F.plainAttrs_str PySem.F.slot_str_index PySem.F.type_str_index mt_spot pe_w pa_w hbase hfew hline hs hplain) (ref_strM (fun G H z vs ds s pr Q k o h => by
  match ds, pr, h with
  | [.str b], pr, h =>
    obtain ⟨v, rfl, hv⟩ := pair1 pr
    obtain rfl := hv.strs
    obtain ⟨m, h1, h2⟩ := h
    exact ⟨z, b, m, rfl, rfl, h1, o.val _ _ (.int _) h2⟩) ho ha)
/-- f'{a}z{b}' of two texts -/
def txtK (d : D) (k : Str → Prop) : Prop := match d with
  | .str y => k y
  | _ => False
theorem txtK_of {d : D} {k : Str → Prop} (h : txtK d k) : ∃ y, d = .str y ∧ k y := by
  cases d <;> first | exact ⟨_, rfl, h⟩ | exact h.elim
theorem app_len (a b : Str) : (a ++ b).length = a.length + b.length := Array.size_append
theorem empty_app (y : Str) : Str.empty ++ y = y := by
  cases y with
  | mk c => show (⟨#[] ++ c⟩ : Str) = _; rw [Array.empty_append]
end
end Tr
set_option Elab.async false
set_option linter.all false
set_option maxRecDepth 100000
namespace Tr
open PySem PySem.Spec PyProof.Rows L2 Evl Kc Kz Kx
section
variable {X : Cx} {o e : Expr} {fa : FE} {fr : FA} {apos cpos pos p : Pos}
def fUp (fa : FE) : FE := fun ρ k x => fa ρ (fun a ρ1 => vw ρ1 a fun d => txtK d fun z => z.length ≤ 100000 ∧ k (.dat (.str (Txt.upper z))) ρ1) x
theorem xe_up (ho : TrE X o fa) (hbase : attributeBase o "upper" X.env (eval o X.env) = eval o X.env := by rfl) (hline : (apos.endLine == cpos.line) = true := by rfl) : TrE X (.Call (.Attribute o "upper" apos) [] [] cpos) (fUp fa) :=
  .of (pe_bm0 PySem.F.plainAttrs_str PySem.F.slot_str_upper PySem.F.type_str_upper mt_upper pe_w hbase hline) fun W E ρ G σ H Q k x tk R lx lk hf => by
  refine ho W E ρ G σ H _ _ x tk R lx (fun a ρ1 G1 v H1 e1 R1 q1 h1 => ?_) hf
  obtain ⟨d, vd, h1⟩ := q1.vw R1 h1
  obtain ⟨z, rfl, l, h1⟩ := txtK_of h1
  obtain rfl := vd.strs
  exact ⟨rfl, z, rfl, rfl, Nat.le_trans l (by decide), lk (.dat (.str (Txt.upper z))) ρ1 G1 _ H1 e1 R1 (.dat (.str _)) h1⟩
def gIntS : D → (Out → Prop) → Prop := fun d k => ∃ z n, d = .str z ∧ PySem.intText? z = some n ∧ z.length ≤ 640 ∧ k (.val (.int n))
theorem xe_intS (hg : Gl X "int") (hm : X.mg "int" = none) (ha : TrA X [e] fr) (he : starEach [e] X.env = (false, eval e X.env) :: starEach [] X.env := by rfl) : TrE X (.Call (.Name "int" p) [e] [] pos) (fB (g1 gIntS) fr) :=
  xe_callTy call_int_str (fun G H vs ds s pr Q k o h => by
  obtain ⟨d, rfl, z, n, rfl, h1, h2, h3⟩ := g1_of h
  obtain ⟨v, rfl, hv⟩ := pair1 pr
  exact ⟨z, n, by rw [hv.strs], h1, h2, o.val _ _ (.int _) h3⟩) hg hm (by decide +kernel) ha (he := he)
end
end Tr
set_option Elab.async false
set_option linter.all false
set_option maxRecDepth 100000
set_option maxHeartbeats 1000000
namespace Tr
open PySem PySem.Spec PyProof.Rows L2 Evl Kc Kz Kx
section
open AutoSeq1 (wpAny_loadPart')
open MeetsSeq MeetsSeq2 MeetsSeq3 SeqRoads2 SeqAt
variable {P : Program} {w : World}
theorem ne_longer {a b : Addr} {us ws : Array Value} {n m : Nat} {d d' : Option Addr} {z z' : Array (Option Value)} (sz : us.size ≠ ws.size) : MeetsIn P w (Builtin.«list.__ne__» ⟨[.ref a, .ref b], []⟩)
      (fun A R s => s.heap.get? a = some (lstO us n d z) ∧ s.heap.get? b = some (lstO ws m d' z') ∧ R (.ok (.ret (.bool true))) s) := by
  intro A R ⟨h0, g0, r0, t0, o0⟩ ⟨ha, hb, fin⟩
  have two := AutoSeq1.sub_list_list
  have yes : (us.size != ws.size) = true := bne_iff_ne.mpr sz
  wp_walk using wpAny_loadPart' ha, wpAny_loadPart' hb
  exact fin
theorem rc_longer {A : Around} {s : Shared} {a b : Addr} {us ws : Array Value} (ha : s.heap.IsList a us) (hb : s.heap.IsList b ws) (sz : us.size ≠ ws.size) (hu : A.units < cLine)
    (E Q : Value → Shared → Prop) (fin : Q (.bool true) s) : wpAny (model P w) A (richCompare .NotEq (.ref a) (.ref b)) Q E s := by
  obtain ⟨⟨c1, d1, t1, z1⟩, e1, k1, n1, y1⟩ := id ha
  obtain ⟨⟨c2, d2, t2, z2⟩, e2, k2, n2, y2⟩ := id hb
  dsimp only at k1 y1 k2 y2
  subst k1 y1 k2 y2
  have la : s.TypeIs (.ref a) "list" := ⟨_, e1, rfl⟩
  have lb : s.TypeIs (.ref b) "list" := ⟨_, e2, rfl⟩
  exact wpAny_richCompare_same_room (op := .NotEq) la lb F.slot_list_ne (call_meetsIn F.slot_list_ne la F.entry_list_ne (F.args_list_ne_2 _ _) (ne_longer (n := n1) (m := n2) (d := d1) (d' := d2) (z := z1) (z' := z2) sz) ⟨e1, e2, (show Value.bool true ≠ Value.notImplemented ∧ Q (.bool true) s from ⟨(fun q => nomatch q), fin⟩)⟩) hu
end
section
variable {X : Cx} {fa fb : FE} {a b : Expr} {pos : Pos}
def rNeL (K : PySem.W.Frag) : R2 := fun x y H Q => ∃ p q xs ys, x = .ref p ∧ y = .ref q ∧ SqL K H p xs ∧ SqL K H q ys ∧ xs.length ≠ ys.length ∧ Q (.bl true) H
theorem op_neL (hu : X.A.units + 64 < cLine) : OpR X (compareOp .NotEq) (rNeL X.K) := fun pins s σ H x y v u Q I rx ry h => by
  obtain ⟨p, q, xs, ys, rfl, rfl, hp, hq, ne, h⟩ := h
  have rx1 : v = Value.ref p := rx
  have ry1 : u = Value.ref q := ry
  subst rx1 ry1
  obtain ⟨us, r1, p1, _⟩ := I.list hp
  obtain ⟨ws, r2, p2, _⟩ := I.list hq
  refine rc_longer p1.isList p2.isList ?_ (by omega) _ _ ⟨.bl true, H, I, rfl, h⟩
  rw [List.size_toArray, ← r1.length, List.size_toArray, ← r2.length]
  exact ne
def gNeL : Op2 := fun d e k => ∃ ds es : List D, d = .list ds ∧ e = .list es ∧ ds.length ≠ es.length ∧ k (.val (.bool true))
theorem y_neL {K : PySem.W.Frag} : Y2 K (rNeL K) gNeL := fun G H x y d e s hx hy Q k o h => by
  obtain ⟨ds, es, rfl, rfl, ne, hk⟩ := h
  obtain ⟨p, xs, rfl, hp, rp⟩ := hx.lsts s
  obtain ⟨q, ys, rfl, hq, rq⟩ := hy.lsts s
  exact ⟨p, q, xs, ys, rfl, rfl, .inl (.inl hp), .inl (.inl hq), by rw [rp.len, rq.len]; exact ne, o.val _ _ (.bl _) hk⟩
abbrev gNeY : Op2 := fun d e k => gNeX d e k ∨ gNeL d e k
end
end Tr
set_option Elab.async false
set_option linter.all false
set_option maxRecDepth 100000
set_option maxHeartbeats 1000000
namespace Tr
open PySem PySem.Spec PyProof.Rows L2 Evl Kc Kz Kx
section
open AutoSeq1 (wpAny_loadPart')
open MeetsSeq MeetsSeq2 MeetsSeq3 SeqRoads2 SeqAt
variable {P : Program} {w : World}
theorem dict_not_str (p : Addr) (es : Array DictEntry) (ep : Nat) (d : Option Addr) (z : Array (Option Value)) (b : Str) (u : Tok) :
    Meets (Builtin.«dict.__ne__» ⟨[.ref p, .str b u], []⟩) (fun _ R s => s.heap.get? p = some { cls := .type "dict", dict := d, data := .dict es ep, slots := z } ∧ R (.ok (.ret .notImplemented)) s) :=
  .of_wp fun P w A R s h => by
    obtain ⟨h0, g0, r0, t0, o0⟩ := s
    obtain ⟨hp, fin⟩ := h
    have sb := F.sub_str_dict
    wp_walk using wpAny_loadPart' hp
    exact ⟨_, rfl, fin⟩
theorem str_not_dict (b : Str) (u : Tok) (p : Addr) (es : Array DictEntry) (ep : Nat) (d : Option Addr) (z : Array (Option Value)) :
    Meets (Builtin.«str.__ne__» ⟨[.str b u, .ref p], []⟩) (fun _ R s => s.heap.get? p = some { cls := .type "dict", dict := d, data := .dict es ep, slots := z } ∧ R (.ok (.ret .notImplemented)) s) :=
  .of_wp fun P w A R s h => by
    obtain ⟨h0, g0, r0, t0, o0⟩ := s
    obtain ⟨hp, fin⟩ := h
    wp_walk using wpAny_loadPart' hp, wpAny_load hp
    exact ⟨_, rfl, fin⟩
theorem rc_dict_str {A : Around} {s : Shared} {p : Addr} {o : Obj} {es : Array DictEntry} {ep : Nat} {b : Str} {u : Tok} (ho : s.heap.get? p = some o) (hc : o.cls = .type "dict") (hd : o.data = .dict es ep) (hu : A.units < cLine) (E Q : Value → Shared → Prop) (fin : Q (.bool true) s) : wpAny (model P w) A (richCompare .NotEq (.ref p) (.str b u)) Q E s := by
  obtain ⟨c, d, t, z⟩ := o
  dsimp only at hc hd
  subst hc hd
  exact rc_ne_decline_or (k := false) ⟨_, ho, rfl⟩ (typeIs_str s b u) (by decide) F.sub_str_dict F.slot_dict_ne F.slot_str_ne_refl
    (fun _ q => call_meets F.slot_dict_ne ⟨_, ho, rfl⟩ F.entry_dict_ne (F.args_dict_ne_2 _ _) (dict_not_str p es ep d z b u) ⟨ho, q⟩)
    (fun _ q => call_meets F.slot_str_ne_refl (typeIs_str s b u) F.entry_str_ne (F.args_str_ne_2 _ _) (str_not_dict b u p es ep d z) ⟨ho, q⟩)
    (fun _ q => wpAny_of_eq (rfl : isSame (.ref p) (.str b u) = pure false) q) (.inr hu) fin
end
section
variable {X : Cx} {fa fb : FE} {a b : Expr} {pos : Pos}
def rNeDS : R2 := fun x y H Q => ∃ p ks z, x = .ref p ∧ y = .str z ∧ H p = some (.dK ks) ∧ Q (.bl true) H
theorem op_neDS (hu : X.A.units + 64 < cLine) : OpR X (compareOp .NotEq) rNeDS := fun pins s σ H x y v u Q I rx ry h => by
  obtain ⟨p, ks, z, rfl, rfl, hp, h⟩ := h
  have ev : v = Value.ref p := rx
  subst ev
  obtain ⟨t, ey⟩ := (show ∃ t, u = Value.str z t from ry)
  subst ey
  obtain ⟨_, _, vs, _, dd⟩ := (show ObjOk X.prog X.w H s.heap p (.dK ks) from I.hok p _ hp)
  obtain ⟨o, es, ep, ho, ex, hd, _⟩ := dd
  exact rc_dict_str ho ex.1 hd (by omega) _ _ ⟨.bl true, H, I, rfl, h⟩
def gNeDS : Op2 := fun d e k => ∃ es z, d = .dict es ∧ e = .str z ∧ k (.val (.bool true))
theorem y_neDS {K : PySem.W.Frag} : Y2 K rNeDS gNeDS := fun G H x y d e s hx hy Q k o h => by
  obtain ⟨es, z, rfl, rfl, hk⟩ := h
  have hx := hx.all s
  have hy := hy.all s
  cases hx with
  | dct g _ =>
    cases hy
    exact ⟨_, _, _, rfl, rfl, g, o.val _ _ (.bl _) hk⟩
abbrev gNeZ : Op2 := fun d e k => gNeY d e k ∨ gNeDS d e k
theorem xt_neZ {n : Nat} (hr : Room n X.A) (ha : TrE X a fa) (hb : TrE X b fb) : TrT X (.Compare a [.NotEq] [b] pos) (fTest (f2 gNeZ fa fb)) := xt_cmp (OpR.or (OpR.or (OpR.or (op_neD (by have := hr.units; omega)) (op_neS (by have := hr.units; omega))) (op_neL (by have := hr.units; omega))) (op_neDS (by have := hr.units; omega))) (Y2.or (Y2.or (Y2.or y_ne y_neS) y_neL) y_neDS) (nomark _) ha hb
end
end Tr
set_option Elab.async false
set_option linter.all false
set_option maxRecDepth 100000
namespace KQ
open PySem PySem.Spec PyProof.Rows L2 Evl Kc Kz Kx Tr Mg K23 K22 K27 K24 KA KB KF TL
open PySem.NumText (digitsVal AllDigits)
/-- the signs behind a minus -/
def digitsOf : List Nat → List Nat
  | 45 :: r => r
  | t => t
def isDig (c : Nat) : Bool := decide (48 ≤ c ∧ c < 58)
/-- is it a number's text -/
def numB (z : Str) : Bool := (!(digitsOf (tl z)).isEmpty) && (digitsOf (tl z)).all isDig && (decide (tl z = [48]) || !decide ((digitsOf (tl z)).head? = some 48))
def numV (z : Str) : Int := if (tl z).head? = some 45 then -((digitsVal (digitsOf (tl z)) : Nat) : Int) else ((digitsVal (digitsOf (tl z)) : Nat) : Int)
def numS (i : Int) : Str := Str.ofString (toString i)
def low (z : Str) : Prop := ∀ c ∈ tl z, c < 128
structure Tx (z : Str) : Prop where
  l : z.length ≤ 300
  w : low z
def readV (z : Str) : D := if numB z = true then .int (numV z) else .str z
def rowV (z : Str) : D := .tuple ((Txt.split z ",").map readV)
def valT : D → Str
  | .int i => numS i
  | .str z => z
  | _ => ""
def verT (ds : List D) : Str := Txt.join "," (ds.map valT)
abbrev exT (DT : Addr) (n : Int) : Exn := ⟨DT, [("line", .int n)]⟩
abbrev exV (DV : Addr) (d : D) : Exn := ⟨DV, [("version", d)]⟩
def F_numT : FD := fun as k _ => ∃ i : Int, as = [.dat (.int i)] ∧ i.natAbs < 2 ^ 300 ∧ k (.dat (.str (numS i)))
def F_isNum : FD := fun as k _ => ∃ z : Str, as = [.dat (.str z)] ∧ Tx z ∧ k (.dat (.bool (numB z)))
def F_numOf : FD := fun as k _ => ∃ z : Str, as = [.dat (.str z)] ∧ Tx z ∧ numB z = true ∧ k (.dat (.int (numV z)))
def F_valT : FD := fun as k _ => ∃ (d : D) (kd : Str), as = [.dat d] ∧ ValOk 300 kd d ∧ k (.dat (.str (valT d)))
def F_readV : FD := fun as k _ => ∃ z : Str, as = [.dat (.str z)] ∧ Tx z ∧ k (.dat (readV z))
def Short (d : D) : Prop := shortVs d ∧ ∀ ds, d = .tuple ds → ds.length ≤ 1000
def F_verTX (C DV : Addr) : FD := fun as k x => ∃ (rows : List Mg.Row) (d : D), as = [schO C rows, .dat d] ∧ rows.length ≤ 8 ∧ (∀ r ∈ rows, three r.2) ∧ ((∃ ds, d = .tuple ds ∧ VerOk 300 rows ds ∧ k (.dat (.str (verT ds)))) ∨ (versionB rows d = false ∧ Short d ∧ keptOk 5 d ∧ x (exV DV d)))
def isStr : D → Bool
  | .str _ => true
  | _ => false
def F_readX (C DT : Addr) : FD := fun as k x => ∃ (rows : List Mg.Row) (d : D), as = [schO C rows, .dat d] ∧ rows.length ≤ 8 ∧ (∀ r ∈ rows, three r.2) ∧ ((∃ z, d = .str z ∧ (z.length ≤ 300 ∧ low z) ∧ ((versionB rows (rowV z) = true ∧ k (.dat (rowV z))) ∨ (versionB rows (rowV z) = false ∧ x (exT DT 1)))) ∨ (isStr d = false ∧ x (exT DT 0)))
def F_numIn : FD := fun as k _ => ∃ z : Str, as = [.dat (.str z)] ∧ Tx z ∧ k (.dat (if numB z = true then .int (numV z) else .none))
def F_rowIn : FD := fun as k _ => ∃ (rows : List Mg.Row) (z : Str), as = [.dat (flD rows), .dat (.str z)] ∧ rows.length ≤ 8 ∧ (∀ r ∈ rows, three r.2) ∧ Tx z ∧ k (.dat (if versionB rows (rowV z) = true then rowV z else .none))
def F_lineOf : FD := fun as k _ => ∃ (rows : List Mg.Row) (ds : List D), as = [.dat (flD rows), .dat (.tuple ds)] ∧ rows.length ≤ 8 ∧ (∀ r ∈ rows, three r.2) ∧ VerOk 300 rows ds ∧ k (.dat (.str (verT ds)))
def metV (rows : List Mg.Row) : D → D
  | .str z => if versionB rows (rowV z) = true then .list [.str "read", rowV z] else .list [.str "line", .int 1]
  | _ => .list [.str "line", .int 0]
def F_met17 (C : Addr) : FD := fun as k _ => ∃ (rows : List Mg.Row) (d : D), as = [schO C rows, .dat d] ∧ rows.length ≤ 8 ∧ (∀ r ∈ rows, three r.2) ∧ (∀ z, d = .str z → z.length ≤ 300 ∧ low z) ∧ ∀ ds, metV rows d = .list ds → k (.own false (.list ds))
def F_bent17 : FD := fun as k _ => ∃ z : Str, as = [.pot true, .dat (.str z)] ∧ Tx z ∧ ∀ y : Str, y.length ≤ z.length + 9 → low y → k (.dat (.str y))
def F_short : FD := fun as k _ => ∃ z : Str, as = [.dat (.str z)] ∧ Tx z ∧ ∀ b : Bool, k (.dat (.bool b))
end KQ
set_option Elab.async false
set_option linter.all false
set_option maxRecDepth 100000
namespace Tr
open PySem PySem.Spec PyProof.Rows L2 Evl Kc Kz Kx
def isO (C : Addr) : AV → Prop
  | .obj C' _ => C' = C
  | _ => False
/-- for x in [..]: the display told by its wrapper -/
theorem ti_listV {X : Cx} {tg e : Expr} {fa : FE} (h : TeW X e fa) : TrI X tg e (iSeq lK fa) := ti_list h.run
end Tr
set_option Elab.async false
set_option linter.all false
set_option maxRecDepth 100000
set_option maxHeartbeats 4000000
namespace KQ
open PySem PySem.Spec PyProof.Rows L2 Evl Kc Kz Kx Tr Mg K23 K22 K27 K24 KA KB KF
def fb_law_number_in : FS := (sCons (sSet 1 (fIf (fTest (f2 gEq (fSl (fVar 0) oNone (oSome (fC (.dat (.int (1)))))) (fC (.dat (.str "-"))))) (fSl (fVar 0) (oSome (fC (.dat (.int (1))))) oNone) (fVar 0))) (sCons (sIf (fOr (fTest (f2 gEq (fVar 1) (fC (.dat (.str ""))))) (fTest (f2 gNe (fLc [2] (iSeq sK (fFrz 1)) (gN 2) (fTest (f2 (gIn true) (fVar 2) (fC (.dat (.str "0123456789"))))) (fFrz 2)) (fDisp .newl fNil)))) (sRet (fC (.dat (.none)))) sNil) (sRet (fIf (fTest (f2 gEq (fB (g1 gStr) (fCons (fB (g1 gIntS) (fCons (fVar 0) fNil)) fNil)) (fVar 0))) (fB (g1 gIntS) (fCons (fVar 0) fNil)) (fC (.dat (.none)))))))
def fb_law_row_in : FS := (sCons (sParK 2 3 (fMeth gSplit (fVar 1) (fCons (fC (.dat (.str ","))) fNil)) (fDisp .newl fNil)) (sCons (sIf (fTest (f2 gNe (fB (g1 gLen) (fCons (fFrz 2) fNil)) (fB (g1 gLen) (fCons (fVar 0) fNil)))) (sRet (fC (.dat (.none)))) sNil) (sCons (sFor (iZ (fCons (fFrz 0) (fCons (fFrz 2) fNil))) (gT 2 (gsCons (gN 4) (gsCons (gN 5) gsNil))) (sExpr (fMut 3 mAppend (fCons (fIf (fTest (f2 gEq (f2 gIx (fVar 4) (fC (.dat (.int (1))))) (fC (.dat (.str "counter"))))) (fCall 1 F_numIn (fCons (fVar 5) fNil)) (fFrz 5)) fNil)))) (sRet (fIf (fTest (fCall 2 F_rowA (fCons (fVar 0) (fCons (fB (g1 gTuple) (fCons (fVar 3) fNil)) fNil)))) (fB (g1 gTuple) (fCons (fVar 3) fNil)) (fC (.dat (.none))))))))
def fb_law_line_of : FS := (sRet (fMeth gJoin (fC (.dat (.str ","))) (fCons (fLc [2] (iR1 (fCons (fB (g1 gLen) (fCons (fVar 0) fNil)) fNil)) (gN 2) fYes (fIf (fTest (f2 gNe (f2 gIx (f2 gIx (fVar 0) (fVar 2)) (fC (.dat (.int (1))))) (fC (.dat (.str "counter"))))) (f2 gIx (fVar 1) (fVar 2)) (fB (g1 gStr) (fCons (f2 gIx (fVar 1) (fVar 2)) fNil)))) fNil)))
def fb_law_met (C : Addr) (D_InvalidText : Addr) : FS := (sCons (sSet 2 (fDisp .newl (fCons (fC (.dat (.str "other"))) fNil))) (sCons (sTryAs 3 D_InvalidText (sSet 2 (fDisp .newl (fCons (fC (.dat (.str "read"))) (fCons (fCall 2 (F_readX C D_InvalidText) (fCons (fVar 0) (fCons (fVar 1) fNil))) fNil)))) (fun a dd => (sCons (sSet 4 (fIsX 3 a D_InvalidText dd false)) (sSet 2 (fIf (fAnd (fTest (fIsX 3 a D_InvalidText dd true)) (fNot (fTest (fVar 4)))) (fDisp .newl (fCons (fC (.dat (.str "line"))) (fCons (fXf 3 a D_InvalidText dd "line") fNil))) (fDisp .newl (fCons (fC (.dat (.str "other"))) fNil))))))) (sRet (fVar 2))))
def fb_law_bent : FS := (sCons (sPar 2 3 (fCons (fCall 2 F_draw (fCons (fVar 0) (fCons (f2 gAdd (fB (g1 gLen) (fCons (fVar 1) fNil)) (fC (.dat (.int (1))))) fNil))) (fCons (fCall 2 F_draw (fCons (fVar 0) (fCons (fC (.dat (.int (4)))) fNil))) fNil))) (sCons (sSet 4 (f2 gIx (fC (.dat (.str "az09,- +\nAZ.:|"))) (fCall 2 F_draw (fCons (fVar 0) (fCons (fC (.dat (.int (14)))) fNil))))) (sCons (sIf (fTest (f2 gEq (fVar 3) (fC (.dat (.int (0)))))) (sRet (f2 gAdd (f2 gAdd (fSl (fVar 1) oNone (oSome (fVar 2))) (fVar 4)) (fSl (fVar 1) (oSome (fVar 2)) oNone))) sNil) (sCons (sIf (fTest (f2 gEq (fVar 3) (fC (.dat (.int (1)))))) (sRet (f2 gAdd (fSl (fVar 1) oNone (oSome (fVar 2))) (fSl (fVar 1) (oSome (f2 gAdd (fVar 2) (fC (.dat (.int (1)))))) oNone))) sNil) (sCons (sIf (fTest (f2 gEq (fVar 3) (fC (.dat (.int (2)))))) (sRet (f2 gAdd (f2 gAdd (fSl (fVar 1) oNone (oSome (fVar 2))) (fVar 4)) (fSl (fVar 1) (oSome (f2 gAdd (fVar 2) (fC (.dat (.int (1)))))) oNone))) sNil) (sCons (sSet 5 (fMeth gSplit (fVar 1) (fCons (fC (.dat (.str ","))) fNil))) (sCons (sSet 6 (fCall 2 F_draw (fCons (fVar 0) (fCons (fB (g1 gLen) (fCons (fVar 5) fNil)) fNil)))) (sCons (sSet 7 (f2 gIx (fVar 5) (fVar 6))) (sCons (sSet 8 (fDisp .newl (fCons (fC (.dat (.str ""))) (fCons (f2 gAdd (fC (.dat (.str "0"))) (fVar 7)) (fCons (f2 gAdd (fC (.dat (.str "-"))) (fVar 7)) (fCons (fC (.dat (.str "-0"))) (fCons (fC (.dat (.str "00"))) (fCons (f2 gAdd (fVar 7) (fC (.dat (.str "abcdefgh")))) (fCons (fC (.dat (.str "+1"))) (fCons (fUp (fVar 7)) (fCons (fC (.dat (.str "1_0"))) (fCons (f2 gAdd (fC (.dat (.str " "))) (fVar 7)) fNil)))))))))))) (sRet (fMeth gJoin (fC (.dat (.str ","))) (fCons (f2 gAdd (f2 gAdd (fSl (fVar 5) oNone (oSome (fVar 6))) (fDisp .newl (fCons (f2 gIx (fVar 8) (fCall 2 F_draw (fCons (fVar 0) (fCons (fC (.dat (.int (10)))) fNil)))) fNil))) (fSl (fVar 5) (oSome (f2 gAdd (fVar 6) (fC (.dat (.int (1)))))) oNone)) fNil))))))))))))
def fb_law_is_short : FS := (sCons (sSet 1 (fC (.dat (.int (0))))) (sCons (sFor (iSeq sK (fFrz 0)) (gN 2) (sCons (sSet 1 (fIf (fTest (f2 (gIn false) (fVar 2) (fC (.dat (.str "0123456789"))))) (f2 gAdd (fVar 1) (fC (.dat (.int (1))))) (fC (.dat (.int (0)))))) (sIf (fTest (f2 gGt (fVar 1) (fC (.dat (.int (60)))))) (sRet (fC (.dat (.bool false)))) sNil))) (sRet (fC (.dat (.bool true))))))
def fb_law (C : Addr) (D_InvalidText : Addr) (D_InvalidVersion : Addr) : FS := (sCons (sFor (iR1 (fCons (fB (g2 gMax2) (fCons (fC (.dat (.int (1)))) (fCons (fB (g2 gMin2) (fCons (fC (.dat (.int (6)))) (fCons (fScrLen (fVar 0)) fNil))) fNil))) fNil)) (gN 1) (sCons (sSet 2 (fCall 2 F_pot (fCons (fVar 0) (fCons (fVar 1) fNil)))) (sCons (sSet 3 (fCall 1 F_somef (fCons (fVar 2) fNil))) (sCons (sPar 4 5 (fCons (fMake C "rows" 1 F_init (fCons (fFrz 3) fNil)) (fCons (f2 gIx (fCall 4 F_rows (fCons (fVar 2) (fCons (fFrz 3) (fCons (fC (.dat (.int (1)))) (fCons (fCall 2 F_draw (fCons (fVar 2) (fCons (fC (.dat (.int (2)))) fNil))) fNil))))) (fC (.dat (.int (0))))) fNil))) (sCons (sSet 6 (fCall 2 F_lineOf (fCons (fFrz 3) (fCons (fVar 5) fNil)))) (sCons (sIf (fTest (f2 (gEqT true) (fB (g1 gReprX) (fCons (fDisp .newl (fCons (fCall 2 (F_verTX C D_InvalidVersion) (fCons (fVar 4) (fCons (fVar 5) fNil))) (fCons (fCall 2 (F_readX C D_InvalidText) (fCons (fVar 4) (fCons (fVar 6) fNil))) fNil))) fNil)) (fB (g1 gReprX) (fCons (fDisp .newl (fCons (fFrz 6) (fCons (fFrz 5) fNil))) fNil)))) (sRet (fC (.dat (.bool false)))) sNil) (sCons (sIf (fTest (f2 (gEqT true) (fB (g1 gReprX) (fCons (fDisp .newl (fCons (fCall 2 (F_verTX C D_InvalidVersion) (fSwp (fCons (fVar 5) (fCons (fVar 4) fNil)))) (fCons (fCall 2 (F_readX C D_InvalidText) (fSwp (fCons (fVar 6) (fCons (fVar 4) fNil)))) fNil))) fNil)) (fB (g1 gReprX) (fCons (fDisp .newl (fCons (fFrz 6) (fCons (fFrz 5) fNil))) fNil)))) (sRet (fC (.dat (.bool false)))) sNil) (sCons (sSet 7 (f2 gAdd (f2 (gI CPow fun i j => .int (i ^ j.toNat)) (fC (.dat (.int (10)))) (fC (.dat (.int (59))))) (fCall 2 F_draw (fCons (fVar 2) (fCons (f2 (gI CPow fun i j => .int (i ^ j.toNat)) (fC (.dat (.int (10)))) (fC (.dat (.int (9))))) fNil))))) (sCons (sSet 8 (fB (g1 gTuple) (fCons (fLc [18] (iSeq tK (fFrz 5)) (gN 18) fYes (fIf (fTest (fCall 1 F_wholeA (fCons (fVar 18) fNil))) (f2 gIx (fDisp .newl (fCons (fFrz 7) (fCons (f1 gNeg (fVar 7)) fNil))) (fCall 2 F_draw (fCons (fVar 2) (fCons (fC (.dat (.int (2)))) fNil)))) (fFrz 18))) fNil))) (sCons (sSet 9 (fCall 2 F_lineOf (fCons (fFrz 3) (fCons (fVar 8) fNil)))) (sCons (sIf (fOr (fTest (f2 gNeZ (fCall 2 (F_readX C D_InvalidText) (fCons (fVar 4) (fCons (fVar 9) fNil))) (fVar 8))) (fTest (f2 gNeZ (fCall 2 (F_verTX C D_InvalidVersion) (fCons (fVar 4) (fCons (fVar 8) fNil))) (fVar 9)))) (sRet (fC (.dat (.bool false)))) sNil) (sCons (sFor (iR1 (fCons (fC (.dat (.int (8)))) fNil)) (gN 10) (sCons (sSet 11 (fCall 2 F_bent17 (fCons (fVar 2) (fCons (fVar 6) fNil)))) (sCons (sIf (fTest (f2 gEq (fCall 2 F_draw (fCons (fVar 2) (fCons (fC (.dat (.int (3)))) fNil))) (fC (.dat (.int (0)))))) (sSet 11 (fCall 2 F_bent17 (fCons (fVar 2) (fCons (fVar 11) fNil)))) sNil) (sCons (sSet 12 (fCall 2 F_rowIn (fCons (fFrz 3) (fCons (fVar 11) fNil)))) (sCons (sSet 13 (fIf (fTest (f2 (gIsN false) (fVar 12) (fC (.dat (.none))))) (fDisp .newl (fCons (fC (.dat (.str "line"))) (fCons (fC (.dat (.int (1)))) fNil))) (fDisp .newl (fCons (fC (.dat (.str "read"))) (fCons (fFrz 12) fNil))))) (sIf (fAnd (fTest (fCall 1 F_short (fCons (fVar 11) fNil))) (fTest (f2 (gEqT true) (fB (g1 gReprX) (fCons (fCall 2 (F_met17 C) (fCons (fVar 4) (fCons (fVar 11) fNil))) fNil)) (fB (g1 gReprX) (fCons (fVar 13) fNil))))) (sRet (fC (.dat (.bool false)))) sNil)))))) (sCons (sFor (iSeq lK (fDisp .newl (fCons (fC (.dat (.none))) (fCons (fC (.dat (.int (0)))) (fCons (fC (.dat (.bool true))) (fCons (fDisp .newl (fCons (fFrz 6) fNil)) (fCons (fDisp .newt (fCons (fFrz 6) fNil)) (fCons (fFrz 5) (fCons (fD0) (fCons (f2 (gI CPow fun i j => .int (i ^ j.toNat)) (fC (.dat (.int (10)))) (fC (.dat (.int (20))))) fNil)))))))))) (gN 14) (sIf (fTest (f2 gNeZ (fCall 2 (F_met17 C) (fCons (fVar 4) (fCons (fVar 14) fNil))) (fDisp .newl (fCons (fC (.dat (.str "line"))) (fCons (fC (.dat (.int (0)))) fNil))))) (sRet (fC (.dat (.bool false)))) sNil)) (sCons (sPar 15 16 (fCons (f2 gIx (fDisp .newl (fCons (fB (g1 gList) (fCons (fVar 5) fNil)) (fCons (fSl (fVar 5) (oSome (fC (.dat (.int (1))))) oNone) (fCons (fC (.dat (.none))) (fCons (f2 gAdd (fVar 5) (fDisp .newt (fCons (fC (.dat (.str "a"))) fNil))) fNil))))) (fCall 2 F_draw (fCons (fVar 2) (fCons (fC (.dat (.int (4)))) fNil)))) (fCons (fC (.dat (.str "returned"))) fNil))) (sCons (sTryAs 17 D_InvalidVersion (sExpr (fCall 2 (F_verTX C D_InvalidVersion) (fCons (fVar 4) (fCons (fVar 15) fNil)))) (fun a dd => (sSet 16 (fXf 17 a D_InvalidVersion dd "version")))) (sIf (fTest (f2 (gEqT true) (fB (g1 gReprX) (fCons (fVar 16) fNil)) (fB (g1 gReprX) (fCons (fVar 15) fNil)))) (sRet (fC (.dat (.bool false)))) sNil)))))))))))))))) (sRet (fC (.dat (.bool true)))))
def fb_number_text : FS := (sCons (sSet 1 (fDisp .newl fNil)) (sCons (sSet 2 (fB (g1 gAbs) (fCons (fVar 0) fNil))) (sCons (sWhile (fTest (f2 gGe (fVar 2) (fC (.dat (.int (10)))))) (sCons (sAsg (fB (g2 gDivmod) (fCons (fVar 2) (fCons (fC (.dat (.int (10)))) fNil))) (gT 2 (gsCons (gN 2) (gsCons (gN 3) gsNil)))) (sExpr (fMut 1 mAppend (fCons (f2 gIx (fC (.dat (.str "0123456789"))) (fVar 3)) fNil))))) (sCons (sExpr (fMut 1 mAppend (fCons (f2 gIx (fC (.dat (.str "0123456789"))) (fVar 2)) fNil))) (sCons (sSet 4 (fIf (fTest (f2 gLt (fVar 0) (fC (.dat (.int (0)))))) (fC (.dat (.str "-"))) (fC (.dat (.str ""))))) (sRet (f2 gAdd (fVar 4) (fMeth gJoin (fC (.dat (.str ""))) (fCons (fRev (fVar 1)) fNil)))))))))
def fb_is_number_text : FS := (sCons (sSet 1 (fMeth gCutPre (fVar 0) (fCons (fC (.dat (.str "-"))) fNil))) (sCons (sIf (fOr (fTest (f2 gEq (fVar 1) (fC (.dat (.str ""))))) (fNot (fTest (fB (g1 gAll) (fCons (fLc [2] (iSeq sK (fFrz 1)) (gN 2) fYes (f2 (gIn false) (fVar 2) (fC (.dat (.str "0123456789"))))) fNil))))) (sRet (fC (.dat (.bool false)))) sNil) (sRet (fOrV (f2 gEq (fVar 0) (fC (.dat (.str "0")))) (fNotV (fMeth gStarts (fVar 1) (fCons (fC (.dat (.str "0"))) fNil)))))))
def fb_number_of : FS := (sCons (sSet 1 (fC (.dat (.int (0))))) (sCons (sFor (iSeq sK (fMeth gCutPre (fVar 0) (fCons (fC (.dat (.str "-"))) fNil))) (gN 2) (sSet 1 (f2 gAdd (f2 gMul (fVar 1) (fC (.dat (.int (10))))) (fMeth gSpot (fC (.dat (.str "0123456789"))) (fCons (fVar 2) fNil))))) (sRet (fIf (fTest (fMeth gStarts (fVar 0) (fCons (fC (.dat (.str "-"))) fNil))) (f1 gNeg (fVar 1)) (fVar 1)))))
def fb_value_text : FS := (sRet (fIf (fTest (f1 (fun d k => k (.val (.bool (isT "str" d)))) (fVar 0))) (fVar 0) (fCall 1 F_numT (fCons (fVar 0) fNil))))
def fb_read_value : FS := (sRet (fIf (fTest (fCall 1 F_isNum (fCons (fVar 0) fNil))) (fCall 1 F_numOf (fCons (fVar 0) fNil)) (fVar 0)))
def fb_version_text (C : Addr) (D_InvalidVersion : Addr) : FS := (sCons (sIf (fNot (fTest (fCall 2 (F_versionA C) (fCons (fVar 0) (fCons (fVar 1) fNil))))) (sRaiseT D_InvalidVersion "version" (fCons (fFrz 1) fNil)) sNil) (sRet (fMeth gJoin (fC (.dat (.str ","))) (fCons (fLc [2] (iSeq tK (fFrz 1)) (gN 2) fYes (fCall 1 F_valT (fCons (fVar 2) fNil))) fNil))))
def fb_read_version (C : Addr) (D_InvalidText : Addr) : FS := (sCons (sIf (fNot (fTest (f1 (fun d k => k (.val (.bool (isT "str" d)))) (fVar 1)))) (sRaise1 D_InvalidText "line" (fCons (fC (.dat (.int (0)))) fNil)) sNil) (sCons (sSet 2 (fB (g1 gTuple) (fCons (fLc [3] (iSeq lK (fMeth gSplit (fVar 1) (fCons (fC (.dat (.str ","))) fNil))) (gN 3) fYes (fCall 1 F_readV (fCons (fVar 3) fNil))) fNil))) (sCons (sIf (fNot (fTest (fCall 2 (F_versionA C) (fCons (fVar 0) (fCons (fVar 2) fNil))))) (sRaise1 D_InvalidText "line" (fCons (fC (.dat (.int (1)))) fNil)) sNil) (sRet (fVar 2)))))
end KQ
set_option Elab.async false
set_option linter.all false
set_option maxRecDepth 100000
namespace K17
open PySem PySem.Spec PyProof.Rows L2 Evl Kc Kz Kx Tr Mg K23 K22 K27 K24 KA KB KF KQ
abbrev fb_law_met := @KQ.fb_law_met
abbrev fb_law_bent := @KQ.fb_law_bent
abbrev fb_law := @KQ.fb_law
abbrev fb_is_name := @K23.fb_is_name
abbrev fb_is_whole_number := @K23.fb_is_whole_number
abbrev fb_is_value := @KA.fb_is_value
abbrev fb_is_version := @KA.fb_is_version
end K17
set_option Elab.async false
set_option linter.all false
set_option maxRecDepth 100000
set_option maxHeartbeats 4000000
namespace K17
open PySem PySem.Spec PyProof.Rows L2 Evl Kc Kz Kx Tr Mg K23 K22 K27 K24 KA KB KF KQ
def topS (i : Nat) : Stmt := PySem.Challenge.pw_mergereach_k17_whole_version_texts.main.body.getD i (.Pass ⟨0, 0, 0, 0⟩)
end K17
set_option Elab.async false
set_option linter.all false
set_option maxRecDepth 100000
set_option maxHeartbeats 4000000
namespace K17
open PySem PySem.Spec PyProof.Rows L2 Evl Kc Kz Kx Tr Mg K23 K22 K27 K24 KA KB KF KQ
abbrev s_law_word : Stmt := topS 37
theorem sc_law_word : FnScope ["_law_pot_here", "_law_taken", "_law_letters", "_law_word_here", "_law_k", "_law_letter"] ["_law_pot_here", "_law_taken"] (defScope s_law_word) := ⟨rfl, rfl, rfl, by decide +kernel, rfl, by decide +kernel, by decide +kernel⟩
theorem tr_law_word {P : Program} {w : World} {K : PySem.W.Frag} {mg : Str → Option Value} {base : Heap} {f : Addr} (T : Blt mg) (d__law_draw : DefO P w K mg base "_law_draw" ["_law_pot_here", "_law_many"] 1 F_draw) :
    ∀ (cdv : Value) (A : Around) (outer : List Env) (s : Shared) (H : Hp) (E : XK), Room 1 (A.deeper (envOfC "_law_word" (defScope s_law_word) s.heap.objs.size f cdv)) → TrB (cxOf (L2.CX P w) P w K mg base ["_law_pot_here", "_law_taken", "_law_letters", "_law_word_here", "_law_k", "_law_letter"] "_law_word" (defScope s_law_word) f cdv A outer s H E) (defBody s_law_word) (fb_law_word) := by
  exact fun cdv A outer s H E hr => (TbW.run (tw_cons (ts_set 2 xe_str sc_law_word.nd rfl (by first | exact .inl rfl | exact .inr rfl)) (tw_cons (ts_set 3 (xe_join xe_str (TaW.run (xw_cons (xe_lc (own := [("_law_k", 4)]) (ti_range1 (by rfl) T.range (TaW.run (xw_cons (xe_at (fun _ _ => rfl) (xe_lstW (xw_cons xe_int (xw_cons xe_int (xw_cons xe_int (xw_cons xe_int xw_nil))))) (xe_callD d__law_draw ⟨rfl, rfl, rfl, rfl, rfl⟩ hr (by decide) (by rfl) (TaW.run (xw_cons (xe_var 0 (pv 0)) (xw_cons xe_int xw_nil))) (he := star_of rfl) (hpl := plain_of rfl))) xw_nil))) rfl sc_law_word.nd (blkOk_by (N := ["_law_pot_here", "_law_taken", "_law_letters", "_law_word_here", "_law_k", "_law_letter"]) (sc := defScope s_law_word) (by decide +kernel)) (fun _ _ _ _ _ => (tg_name 4 sc_law_word.nd rfl (by first | exact .inl rfl | exact .inr rfl))) (fun _ _ _ _ _ => (xe_at (fun _ _ => rfl) (xe_var 2 (pv 2)) (xe_callD d__law_draw ⟨rfl, rfl, rfl, rfl, rfl⟩ hr (by decide) (by rfl) (TaW.run (xw_cons (xe_var 0 (pv 0)) (xw_cons xe_int xw_nil))) (he := star_of rfl) (hpl := plain_of rfl))))) xw_nil))) sc_law_word.nd rfl (by first | exact .inl rfl | exact .inr rfl)) (tw_cons (ts_if (xt_in hr (by with_unfolding_all rfl) (xe_var 3 (pv 3)) (xe_var 1 (pv 1))) (TbW.run (tw_one (ts_set 3 (xe_at (fun _ _ => rfl) (xe_lcif (own := [("_law_letter", 5)]) (ti_str (xe_frz 2 (pv 2))) rfl sc_law_word.nd (blkOk_by (N := ["_law_pot_here", "_law_taken", "_law_letters", "_law_word_here", "_law_k", "_law_letter"]) (sc := defScope s_law_word) (by decide +kernel)) (fun _ _ _ _ _ => (tg_name 5 sc_law_word.nd rfl (by first | exact .inl rfl | exact .inr rfl))) (fun _ _ _ _ _ => (xt_notIn hr (by with_unfolding_all rfl) (xe_var 5 (pv 5)) (xe_var 1 (pv 1)))) (fun _ _ _ _ _ => (xe_frz 5 (pv 5)))) xe_int) sc_law_word.nd rfl (by first | exact .inl rfl | exact .inr rfl)))) tb_nil) (tw_one (ts_ret (xe_var 3 (pv 3))))))))
end K17
set_option Elab.async false
set_option linter.all false
set_option maxRecDepth 100000
set_option maxHeartbeats 4000000
namespace K17
open PySem PySem.Spec PyProof.Rows L2 Evl Kc Kz Kx Tr Mg K23 K22 K27 K24 KA KB KF KQ
abbrev s_law_words : Stmt := topS 38
theorem sc_law_words : FnScope ["_law_pot_here", "_law_many", "_law_found", "_law_k"] ["_law_pot_here", "_law_many"] (defScope s_law_words) := ⟨rfl, rfl, rfl, by decide +kernel, rfl, by decide +kernel, by decide +kernel⟩
theorem tr_law_words {P : Program} {w : World} {K : PySem.W.Frag} {mg : Str → Option Value} {base : Heap} {f : Addr} (T : Blt mg) (d__law_word : DefO P w K mg base "_law_word" ["_law_pot_here", "_law_taken"] 2 F_word) :
    ∀ (cdv : Value) (A : Around) (outer : List Env) (s : Shared) (H : Hp) (E : XK), Room 2 (A.deeper (envOfC "_law_words" (defScope s_law_words) s.heap.objs.size f cdv)) → TrB (cxOf (L2.CX P w) P w K mg base ["_law_pot_here", "_law_many", "_law_found", "_law_k"] "_law_words" (defScope s_law_words) f cdv A outer s H E) (defBody s_law_words) (fb_law_words) := by
  exact fun cdv A outer s H E hr => (TbW.run (tw_cons (ts_set 2 (xe_lstW xw_nil) sc_law_words.nd rfl (by first | exact .inl rfl | exact .inr rfl)) (tw_cons (ts_for (ti_range1 (by rfl) T.range (TaW.run (xw_cons (xe_var 1 (pv 1)) xw_nil))) (tg_name 3 sc_law_words.nd rfl (by first | exact .inl rfl | exact .inr rfl)) (TbW.run (tw_one (ts_expr (xe_append 2 (pv 2) (TaW.run (xw_cons (xe_callD d__law_word ⟨rfl, rfl, rfl, rfl, rfl⟩ hr (by decide) (by rfl) (TaW.run (xw_cons (xe_var 0 (pv 0)) (xw_cons (xe_var 2 (pv 2)) xw_nil))) (he := star_of rfl) (hpl := plain_of rfl)) xw_nil)))))) (passes_of rfl) rfl) (tw_one (ts_ret (xe_var 2 (pv 2)))))))
end K17
set_option Elab.async false
set_option linter.all false
set_option maxRecDepth 100000
set_option maxHeartbeats 4000000
namespace K17
open PySem PySem.Spec PyProof.Rows L2 Evl Kc Kz Kx Tr Mg K23 K22 K27 K24 KA KB KF KQ
abbrev s_law_mixed : Stmt := topS 36
theorem sc_law_mixed : FnScope ["_law_pot_here", "_law_given", "_law_left", "_law_k"] ["_law_pot_here", "_law_given"] (defScope s_law_mixed) := ⟨rfl, rfl, rfl, by decide +kernel, rfl, by decide +kernel, by decide +kernel⟩
theorem tr_law_mixed {P : Program} {w : World} {K : PySem.W.Frag} {mg : Str → Option Value} {base : Heap} {f : Addr} (T : Blt mg) (d__law_draw : DefO P w K mg base "_law_draw" ["_law_pot_here", "_law_many"] 1 F_draw) :
    ∀ (cdv : Value) (A : Around) (outer : List Env) (s : Shared) (H : Hp) (E : XK), Room 1 (A.deeper (envOfC "_law_mixed" (defScope s_law_mixed) s.heap.objs.size f cdv)) → TrB (cxOf (L2.CX P w) P w K mg base ["_law_pot_here", "_law_given", "_law_left", "_law_k"] "_law_mixed" (defScope s_law_mixed) f cdv A outer s H E) (defBody s_law_mixed) (fb_law_mixed) := by
  exact fun cdv A outer s H E hr => (TbW.run (tw_cons (ts_set 2 (xe_list (by rfl) T.list rfl (TaW.run (xw_cons (xe_var 1 (pv 1)) xw_nil))) sc_law_mixed.nd rfl (by first | exact .inl rfl | exact .inr rfl)) (tw_one (ts_ret (xe_lc (own := [("_law_k", 3)]) (ti_range1 (by rfl) T.range (TaW.run (xw_cons (xe_len (by rfl) T.len (TaW.run (xw_cons (xe_var 1 (pv 1)) xw_nil))) xw_nil))) rfl sc_law_mixed.nd (blkOk_by (N := ["_law_pot_here", "_law_given", "_law_left", "_law_k"]) (sc := defScope s_law_mixed) (by decide +kernel)) (fun _ _ _ _ _ => (tg_name 3 sc_law_mixed.nd rfl (by first | exact .inl rfl | exact .inr rfl))) (fun _ _ _ _ _ => (xe_popAt 2 (pv 2) (TaW.run (xw_cons (xe_callD d__law_draw ⟨rfl, rfl, rfl, rfl, rfl⟩ hr (by decide) (by rfl) (TaW.run (xw_cons (xe_var 0 (pv 0)) (xw_cons (xe_len (by rfl) T.len (TaW.run (xw_cons (xe_var 2 (pv 2)) xw_nil))) xw_nil))) (he := star_of rfl) (hpl := plain_of rfl)) xw_nil)))))))))
end K17
set_option Elab.async false
set_option linter.all false
set_option maxRecDepth 100000
set_option maxHeartbeats 4000000
namespace K17
open PySem PySem.Spec PyProof.Rows L2 Evl Kc Kz Kx Tr Mg K23 K22 K27 K24 KA KB KF KQ
abbrev s_law_fields : Stmt := topS 39
theorem sc_law_fields : FnScope ["_law_pot_here", "_law_marks", "_law_sums", "_law_kinds", "_law_k"] ["_law_pot_here", "_law_marks", "_law_sums"] (defScope s_law_fields) := ⟨rfl, rfl, rfl, by decide +kernel, rfl, by decide +kernel, by decide +kernel⟩
theorem tr_law_fields {P : Program} {w : World} {K : PySem.W.Frag} {mg : Str → Option Value} {base : Heap} {f : Addr} (T : Blt mg) (d__law_draw : DefO P w K mg base "_law_draw" ["_law_pot_here", "_law_many"] 1 F_draw) (d__law_mixed : DefO P w K mg base "_law_mixed" ["_law_pot_here", "_law_given"] 2 F_mixed) (d__law_words : DefO P w K mg base "_law_words" ["_law_pot_here", "_law_many"] 3 F_words) :
    ∀ (cdv : Value) (A : Around) (outer : List Env) (s : Shared) (H : Hp) (E : XK), Room 3 (A.deeper (envOfC "_law_fields" (defScope s_law_fields) s.heap.objs.size f cdv)) → TrB (cxOf (L2.CX P w) P w K mg base ["_law_pot_here", "_law_marks", "_law_sums", "_law_kinds", "_law_k"] "_law_fields" (defScope s_law_fields) f cdv A outer s H E) (defBody s_law_fields) (fb_law_fields) := by
  exact fun cdv A outer s H E hr => (TbW.run (tw_cons (ts_set 3 (xe_add (xe_lc (own := [("_law_k", 4)]) (ti_range1 (by rfl) T.range (TaW.run (xw_cons (xe_var 1 (pv 1)) xw_nil))) rfl sc_law_fields.nd (blkOk_by (N := ["_law_pot_here", "_law_marks", "_law_sums", "_law_kinds", "_law_k"]) (sc := defScope s_law_fields) (by decide +kernel)) (fun _ _ _ _ _ => (tg_name 4 sc_law_fields.nd rfl (by first | exact .inl rfl | exact .inr rfl))) (fun _ _ _ _ _ => (xe_at (fun _ _ => rfl) (xe_lstW (xw_cons xe_str (xw_cons xe_str xw_nil))) (xe_callD d__law_draw ⟨rfl, rfl, rfl, rfl, rfl⟩ hr (by decide) (by rfl) (TaW.run (xw_cons (xe_var 0 (pv 0)) (xw_cons xe_int xw_nil))) (he := star_of rfl) (hpl := plain_of rfl))))) (xe_mul (xe_lstW (xw_cons xe_str xw_nil)) (xe_var 2 (pv 2)))) sc_law_fields.nd rfl (by first | exact .inl rfl | exact .inr rfl)) (tw_one (ts_ret (xe_listZip rfl (by rfl) T.list (by rfl) T.zip (TaW.run (xw_cons (xe_callD d__law_words ⟨rfl, rfl, rfl, rfl, rfl⟩ hr (by decide) (by rfl) (TaW.run (xw_cons (xe_var 0 (pv 0)) (xw_cons (xe_add (xe_var 1 (pv 1)) (xe_var 2 (pv 2))) xw_nil))) (he := star_of rfl) (hpl := plain_of rfl)) (xw_cons (xe_callD d__law_mixed ⟨rfl, rfl, rfl, rfl, rfl⟩ hr (by decide) (by rfl) (TaW.run (xw_cons (xe_var 0 (pv 0)) (xw_cons (xe_var 3 (pv 3)) xw_nil))) (he := star_of rfl) (hpl := plain_of rfl)) xw_nil))))))))
end K17
set_option Elab.async false
set_option linter.all false
set_option maxRecDepth 100000
set_option maxHeartbeats 4000000
namespace K17
open PySem PySem.Spec PyProof.Rows L2 Evl Kc Kz Kx Tr Mg K23 K22 K27 K24 KA KB KF KQ
abbrev s_law_step : Stmt := topS 40
theorem sc_law_step : FnScope ["_law_pot_here", "_law_far", "_law_near"] ["_law_pot_here", "_law_far"] (defScope s_law_step) := ⟨rfl, rfl, rfl, by decide +kernel, rfl, by decide +kernel, by decide +kernel⟩
theorem tr_law_step {P : Program} {w : World} {K : PySem.W.Frag} {mg : Str → Option Value} {base : Heap} {f : Addr} (T : Blt mg) (d__law_draw : DefO P w K mg base "_law_draw" ["_law_pot_here", "_law_many"] 1 F_draw) :
    ∀ (cdv : Value) (A : Around) (outer : List Env) (s : Shared) (H : Hp) (E : XK), Room 1 (A.deeper (envOfC "_law_step" (defScope s_law_step) s.heap.objs.size f cdv)) → TrB (cxOf (L2.CX P w) P w K mg base ["_law_pot_here", "_law_far", "_law_near"] "_law_step" (defScope s_law_step) f cdv A outer s H E) (defBody s_law_step) (fb_law_step) := by
  exact fun cdv A outer s H E hr => (TbW.run (tw_cons (ts_set 2 (xe_at (fun _ _ => rfl) (xe_lstW (xw_cons xe_int (xw_cons xe_int (xw_cons xe_int (xw_cons xe_int (xw_cons xe_int (xw_cons xe_int xw_nil))))))) (xe_callD d__law_draw ⟨rfl, rfl, rfl, rfl, rfl⟩ hr (by decide) (by rfl) (TaW.run (xw_cons (xe_var 0 (pv 0)) (xw_cons xe_int xw_nil))) (he := star_of rfl) (hpl := plain_of rfl))) sc_law_step.nd rfl (by first | exact .inl rfl | exact .inr rfl)) (tw_one (ts_ret (xe_if (TrW.t (xw_or (xt_eq hr (xe_var 1 (pv 1)) xe_int) (xw_or1 (xt_eq hr (xe_callD d__law_draw ⟨rfl, rfl, rfl, rfl, rfl⟩ hr (by decide) (by rfl) (TaW.run (xw_cons (xe_var 0 (pv 0)) (xw_cons xe_int xw_nil))) (he := star_of rfl) (hpl := plain_of rfl)) xe_int)))) (xe_var 2 (pv 2)) (xe_add (xe_mul (xe_var 2 (pv 2)) (xe_pow xe_int xe_int)) (xe_callD d__law_draw ⟨rfl, rfl, rfl, rfl, rfl⟩ hr (by decide) (by rfl) (TaW.run (xw_cons (xe_var 0 (pv 0)) (xw_cons (xe_pow xe_int xe_int) xw_nil))) (he := star_of rfl) (hpl := plain_of rfl))))))))
end K17
set_option Elab.async false
set_option linter.all false
set_option maxRecDepth 100000
set_option maxHeartbeats 4000000
namespace K17
open PySem PySem.Spec PyProof.Rows L2 Evl Kc Kz Kx Tr Mg K23 K22 K27 K24 KA KB KF KQ
abbrev s_law_plan : Stmt := topS 41
theorem sc_law_plan : FnScope ["_law_pot_here", "_law_fields_here", "_law_far", "_law_sizes", "_law_found", "_law_name", "_law_kind", "_law_group", "_law_size"] ["_law_pot_here", "_law_fields_here", "_law_far"] (defScope s_law_plan) := ⟨rfl, rfl, rfl, by decide +kernel, rfl, by decide +kernel, by decide +kernel⟩
theorem tr_law_plan {P : Program} {w : World} {K : PySem.W.Frag} {mg : Str → Option Value} {base : Heap} {f : Addr} (T : Blt mg) (d__law_draw : DefO P w K mg base "_law_draw" ["_law_pot_here", "_law_many"] 1 F_draw) (d__law_step : DefO P w K mg base "_law_step" ["_law_pot_here", "_law_far"] 2 F_step) (d__law_words : DefO P w K mg base "_law_words" ["_law_pot_here", "_law_many"] 3 F_words) :
    ∀ (cdv : Value) (A : Around) (outer : List Env) (s : Shared) (H : Hp) (E : XK), Room 3 (A.deeper (envOfC "_law_plan" (defScope s_law_plan) s.heap.objs.size f cdv)) → TrB (cxOf (L2.CX P w) P w K mg base ["_law_pot_here", "_law_fields_here", "_law_far", "_law_sizes", "_law_found", "_law_name", "_law_kind", "_law_group", "_law_size"] "_law_plan" (defScope s_law_plan) f cdv A outer s H E) (defBody s_law_plan) (fb_law_plan) := by
  exact fun cdv A outer s H E hr => (TbW.run (tw_cons (ts_parK (xe_lstW (xw_cons (xe_add xe_int (xe_callD d__law_draw ⟨rfl, rfl, rfl, rfl, rfl⟩ hr (by decide) (by rfl) (TaW.run (xw_cons (xe_var 0 (pv 0)) (xw_cons xe_int xw_nil))) (he := star_of rfl) (hpl := plain_of rfl))) (xw_cons (xe_add xe_int (xe_callD d__law_draw ⟨rfl, rfl, rfl, rfl, rfl⟩ hr (by decide) (by rfl) (TaW.run (xw_cons (xe_var 0 (pv 0)) (xw_cons xe_int xw_nil))) (he := star_of rfl) (hpl := plain_of rfl))) (xw_cons xe_int xw_nil)))) (xe_lstW xw_nil) rfl sc_law_plan.nd rfl rfl (by decide) rfl rfl rfl) (tw_cons (ts_for (ti_list (xe_frz 1 (pv 1))) (tg_tup (tgs_cons (tg_name 5 sc_law_plan.nd rfl (by first | exact .inl rfl | exact .inr rfl)) (tgs_cons (tg_name 6 sc_law_plan.nd rfl (by first | exact .inl rfl | exact .inr rfl)) tgs_nil)) rfl) (TbW.run (tw_one (ts_if (xt_eq hr (xe_var 6 (pv 6)) xe_str) (TbW.run (tw_one (ts_expr (xe_append 4 (pv 4) (TaW.run (xv_cons (xe_tupV (xw_cons (xe_sub (xe_callD d__law_draw ⟨rfl, rfl, rfl, rfl, rfl⟩ hr (by decide) (by rfl) (TaW.run (xw_cons (xe_var 0 (pv 0)) (xw_cons xe_int xw_nil))) (he := star_of rfl) (hpl := plain_of rfl)) xe_int) (xw_cons (xe_callD d__law_step ⟨rfl, rfl, rfl, rfl, rfl⟩ hr (by decide) (by rfl) (TaW.run (xw_cons (xe_var 0 (pv 0)) (xw_cons (xe_var 2 (pv 2)) xw_nil))) (he := star_of rfl) (hpl := plain_of rfl)) xw_nil))) xw_nil)))))) (TbW.run (tw_cons (ts_set 7 (xe_callD d__law_draw ⟨rfl, rfl, rfl, rfl, rfl⟩ hr (by decide) (by rfl) (TaW.run (xw_cons (xe_var 0 (pv 0)) (xw_cons xe_int xw_nil))) (he := star_of rfl) (hpl := plain_of rfl)) sc_law_plan.nd rfl (by first | exact .inl rfl | exact .inr rfl)) (tw_cons (ts_set 8 (xe_if (xt_gt (xe_callD d__law_draw ⟨rfl, rfl, rfl, rfl, rfl⟩ hr (by decide) (by rfl) (TaW.run (xw_cons (xe_var 0 (pv 0)) (xw_cons xe_int xw_nil))) (he := star_of rfl) (hpl := plain_of rfl)) xe_int) (xe_at (fun _ _ => rfl) (xe_var 3 (pv 3)) (xe_var 7 (pv 7))) (xe_add xe_int (xe_callD d__law_draw ⟨rfl, rfl, rfl, rfl, rfl⟩ hr (by decide) (by rfl) (TaW.run (xw_cons (xe_var 0 (pv 0)) (xw_cons xe_int xw_nil))) (he := star_of rfl) (hpl := plain_of rfl)))) sc_law_plan.nd rfl (by first | exact .inl rfl | exact .inr rfl)) (tw_one (ts_expr (xe_append 4 (pv 4) (TaW.run (xv_cons (xe_tupV (xw_cons (xe_frz 7 (pv 7)) (xw_cons (xe_callD d__law_words ⟨rfl, rfl, rfl, rfl, rfl⟩ hr (by decide) (by rfl) (TaW.run (xw_cons (xe_var 0 (pv 0)) (xw_cons (xe_var 8 (pv 8)) xw_nil))) (he := star_of rfl) (hpl := plain_of rfl)) (xw_cons (xe_eq hr (xe_callD d__law_draw ⟨rfl, rfl, rfl, rfl, rfl⟩ hr (by decide) (by rfl) (TaW.run (xw_cons (xe_var 0 (pv 0)) (xw_cons xe_int xw_nil))) (he := star_of rfl) (hpl := plain_of rfl)) xe_int) xw_nil)))) xw_nil))))))))))) (passes_of rfl) rfl) (tw_one (ts_ret (xe_var 4 (pv 4)))))))
end K17
set_option Elab.async false
set_option linter.all false
set_option maxRecDepth 100000
set_option maxHeartbeats 4000000
namespace K17
open PySem PySem.Spec PyProof.Rows L2 Evl Kc Kz Kx Tr Mg K23 K22 K27 K24 KA KB KF KQ
abbrev s_law_row : Stmt := topS 42
theorem sc_law_row : FnScope ["_law_pot_here", "_law_fields_here", "_law_plan_here", "_law_spots", "_law_found", "_law_at", "_law_row_here", "_law_group", "_law_pool", "_law_loose", "_law_index"] ["_law_pot_here", "_law_fields_here", "_law_plan_here"] (defScope s_law_row) := ⟨rfl, rfl, rfl, by decide +kernel, rfl, by decide +kernel, by decide +kernel⟩
theorem tr_law_row {P : Program} {w : World} {K : PySem.W.Frag} {mg : Str → Option Value} {base : Heap} {f : Addr} (T : Blt mg) (d__law_draw : DefO P w K mg base "_law_draw" ["_law_pot_here", "_law_many"] 1 F_draw) :
    ∀ (cdv : Value) (A : Around) (outer : List Env) (s : Shared) (H : Hp) (E : XK), Room 1 (A.deeper (envOfC "_law_row" (defScope s_law_row) s.heap.objs.size f cdv)) → TrB (cxOf (L2.CX P w) P w K mg base ["_law_pot_here", "_law_fields_here", "_law_plan_here", "_law_spots", "_law_found", "_law_at", "_law_row_here", "_law_group", "_law_pool", "_law_loose", "_law_index"] "_law_row" (defScope s_law_row) f cdv A outer s H E) (defBody s_law_row) (fb_law_row) := by
  exact fun cdv A outer s H E hr => (TbW.run (tw_cons (ts_parK (xe_lstW (xw_cons (xe_callD d__law_draw ⟨rfl, rfl, rfl, rfl, rfl⟩ hr (by decide) (by rfl) (TaW.run (xw_cons (xe_var 0 (pv 0)) (xw_cons xe_int xw_nil))) (he := star_of rfl) (hpl := plain_of rfl)) (xw_cons (xe_callD d__law_draw ⟨rfl, rfl, rfl, rfl, rfl⟩ hr (by decide) (by rfl) (TaW.run (xw_cons (xe_var 0 (pv 0)) (xw_cons xe_int xw_nil))) (he := star_of rfl) (hpl := plain_of rfl)) (xw_cons (xe_callD d__law_draw ⟨rfl, rfl, rfl, rfl, rfl⟩ hr (by decide) (by rfl) (TaW.run (xw_cons (xe_var 0 (pv 0)) (xw_cons xe_int xw_nil))) (he := star_of rfl) (hpl := plain_of rfl)) xw_nil)))) (xe_lstW xw_nil) rfl sc_law_row.nd rfl rfl (by decide) rfl rfl rfl) (tw_cons (ts_for (ti_enum (by rfl) T.enumerate (TaW.run (xw_cons (xe_frz 1 (pv 1)) xw_nil))) (tg_tup (tgs_cons (tg_name 5 sc_law_row.nd rfl (by first | exact .inl rfl | exact .inr rfl)) (tgs_cons (tg_name 6 sc_law_row.nd rfl (by first | exact .inl rfl | exact .inr rfl)) tgs_nil)) rfl) (TbW.run (tw_one (ts_if (xt_eq hr (xe_at (fun _ _ => rfl) (xe_var 6 (pv 6)) xe_int) xe_str) (TbW.run (tw_one (ts_expr (xe_append 4 (pv 4) (TaW.run (xw_cons (xe_add (xe_at (fun _ _ => rfl) (xe_at (fun _ _ => rfl) (xe_var 2 (pv 2)) (xe_var 5 (pv 5))) xe_int) (xe_mul (xe_at (fun _ _ => rfl) (xe_at (fun _ _ => rfl) (xe_var 2 (pv 2)) (xe_var 5 (pv 5))) xe_int) (xe_sub (xe_callD d__law_draw ⟨rfl, rfl, rfl, rfl, rfl⟩ hr (by decide) (by rfl) (TaW.run (xw_cons (xe_var 0 (pv 0)) (xw_cons xe_int xw_nil))) (he := star_of rfl) (hpl := plain_of rfl)) xe_int))) xw_nil)))))) (TbW.run (tw_cons (ts_asg (xe_at (fun _ _ => rfl) (xe_var 2 (pv 2)) (xe_var 5 (pv 5))) (tg_tup (tgs_cons (tg_name 7 sc_law_row.nd rfl (by first | exact .inl rfl | exact .inr rfl)) (tgs_cons (tg_name 8 sc_law_row.nd rfl (by first | exact .inl rfl | exact .inr rfl)) (tgs_cons (tg_name 9 sc_law_row.nd rfl (by first | exact .inl rfl | exact .inr rfl)) tgs_nil))) rfl)) (tw_cons (ts_set 10 (xe_if (xt_val (xe_var 9 (pv 9))) (xe_callD d__law_draw ⟨rfl, rfl, rfl, rfl, rfl⟩ hr (by decide) (by rfl) (TaW.run (xw_cons (xe_var 0 (pv 0)) (xw_cons (xe_len (by rfl) T.len (TaW.run (xw_cons (xe_var 8 (pv 8)) xw_nil))) xw_nil))) (he := star_of rfl) (hpl := plain_of rfl)) (xe_at (fun _ _ => rfl) (xe_var 3 (pv 3)) (xe_var 7 (pv 7)))) sc_law_row.nd rfl (by first | exact .inl rfl | exact .inr rfl)) (tw_one (ts_expr (xe_append 4 (pv 4) (TaW.run (xw_cons (xe_at (fun _ _ => rfl) (xe_var 8 (pv 8)) (xe_mod (xe_var 10 (pv 10)) (xe_len (by rfl) T.len (TaW.run (xw_cons (xe_var 8 (pv 8)) xw_nil))))) xw_nil))))))))))) (passes_of rfl) rfl) (tw_one (ts_ret (xe_tuple (by rfl) T.tuple (TaW.run (xw_cons (xe_var 4 (pv 4)) xw_nil))))))))
end K17
set_option Elab.async false
set_option linter.all false
set_option maxRecDepth 100000
set_option maxHeartbeats 4000000
namespace K17
open PySem PySem.Spec PyProof.Rows L2 Evl Kc Kz Kx Tr Mg K23 K22 K27 K24 KA KB KF KQ
abbrev s_law_rows : Stmt := topS 43
theorem sc_law_rows : FnScope ["_law_pot_here", "_law_fields_here", "_law_most", "_law_far", "_law_plan_here", "_law_found", "_law_k"] ["_law_pot_here", "_law_fields_here", "_law_most", "_law_far"] (defScope s_law_rows) := ⟨rfl, rfl, rfl, by decide +kernel, rfl, by decide +kernel, by decide +kernel⟩
theorem tr_law_rows {P : Program} {w : World} {K : PySem.W.Frag} {mg : Str → Option Value} {base : Heap} {f : Addr} (T : Blt mg) (d__law_plan : DefO P w K mg base "_law_plan" ["_law_pot_here", "_law_fields_here", "_law_far"] 4 F_plan) (d__law_draw : DefO P w K mg base "_law_draw" ["_law_pot_here", "_law_many"] 1 F_draw) (d__law_row : DefO P w K mg base "_law_row" ["_law_pot_here", "_law_fields_here", "_law_plan_here"] 2 F_row) :
    ∀ (cdv : Value) (A : Around) (outer : List Env) (s : Shared) (H : Hp) (E : XK), Room 4 (A.deeper (envOfC "_law_rows" (defScope s_law_rows) s.heap.objs.size f cdv)) → TrB (cxOf (L2.CX P w) P w K mg base ["_law_pot_here", "_law_fields_here", "_law_most", "_law_far", "_law_plan_here", "_law_found", "_law_k"] "_law_rows" (defScope s_law_rows) f cdv A outer s H E) (defBody s_law_rows) (fb_law_rows) := by
  exact fun cdv A outer s H E hr => (TbW.run (tw_cons (ts_set 4 (xe_callD d__law_plan ⟨rfl, rfl, rfl, rfl, rfl⟩ hr (by decide) (by rfl) (TaW.run (xw_cons (xe_var 0 (pv 0)) (xw_cons (xe_var 1 (pv 1)) (xw_cons (xe_var 3 (pv 3)) xw_nil)))) (he := star_of rfl) (hpl := plain_of rfl)) sc_law_rows.nd rfl (by first | exact .inl rfl | exact .inr rfl)) (tw_cons (ts_lc 5 (own := [("_law_k", 6)]) (ti_range1 (by rfl) T.range (TaW.run (xw_cons (xe_add xe_int (xe_callD d__law_draw ⟨rfl, rfl, rfl, rfl, rfl⟩ hr (by decide) (by rfl) (TaW.run (xw_cons (xe_var 0 (pv 0)) (xw_cons (xe_var 2 (pv 2)) xw_nil))) (he := star_of rfl) (hpl := plain_of rfl))) xw_nil))) rfl sc_law_rows.nd rfl rfl (sw_true rfl rfl rfl (by decide +kernel)) (blkOk_by (N := ["_law_pot_here", "_law_fields_here", "_law_most", "_law_far", "_law_plan_here", "_law_found", "_law_k"]) (sc := defScope s_law_rows) (by decide +kernel)) (fun _ _ _ _ _ => (tg_name 6 sc_law_rows.nd rfl (by first | exact .inl rfl | exact .inr rfl))) (fun _ _ _ _ _ => (xe_callD d__law_row ⟨rfl, rfl, rfl, rfl, rfl⟩ hr (by decide) (by rfl) (TaW.run (xw_cons (xe_var 0 (pv 0)) (xw_cons (xe_var 1 (pv 1)) (xw_cons (xe_var 4 (pv 4)) xw_nil)))) (he := star_of rfl) (hpl := plain_of rfl)))) (tw_cons (ts_if (xt_eq hr (xe_callD d__law_draw ⟨rfl, rfl, rfl, rfl, rfl⟩ hr (by decide) (by rfl) (TaW.run (xw_cons (xe_var 0 (pv 0)) (xw_cons xe_int xw_nil))) (he := star_of rfl) (hpl := plain_of rfl)) xe_int) (TbW.run (tw_one (ts_expr (xe_append 5 (pv 5) (TaW.run (xw_cons (xe_at (fun _ _ => rfl) (xe_var 5 (pv 5)) (xe_callD d__law_draw ⟨rfl, rfl, rfl, rfl, rfl⟩ hr (by decide) (by rfl) (TaW.run (xw_cons (xe_var 0 (pv 0)) (xw_cons (xe_len (by rfl) T.len (TaW.run (xw_cons (xe_var 5 (pv 5)) xw_nil))) xw_nil))) (he := star_of rfl) (hpl := plain_of rfl))) xw_nil)))))) tb_nil) (tw_one (ts_ret (xe_var 5 (pv 5))))))))
end K17
set_option Elab.async false
set_option linter.all false
set_option maxRecDepth 100000
set_option maxHeartbeats 4000000
namespace K17
open PySem PySem.Spec PyProof.Rows L2 Evl Kc Kz Kx Tr Mg K23 K22 K27 K24 KA KB KF KQ
abbrev s_law_is_int : Stmt := topS 44
theorem sc_law_is_int : FnScope ["_law_item"] ["_law_item"] (defScope s_law_is_int) := ⟨rfl, rfl, rfl, by decide +kernel, rfl, by decide +kernel, by decide +kernel⟩
theorem tr_law_is_int {P : Program} {w : World} {K : PySem.W.Frag} {mg : Str → Option Value} {base : Heap} {f : Addr} (T : Blt mg) :
    ∀ (cdv : Value) (A : Around) (outer : List Env) (s : Shared) (H : Hp) (E : XK), Room 0 (A.deeper (envOfC "_law_is_int" (defScope s_law_is_int) s.heap.objs.size f cdv)) → TrB (cxOf (L2.CX P w) P w K mg base ["_law_item"] "_law_is_int" (defScope s_law_is_int) f cdv A outer s H E) (defBody s_law_is_int) (fb_law_is_int) := by
  exact fun cdv A outer s H E hr => (TbW.run (tw_one (ts_ret (xe_and (xe_isi (by rfl) T.isinstance (by decide +kernel) (pe_bltn (v := .ty "int") (by rfl) T.int (by decide +kernel) rfl) (xe_var 0 (pv 0))) (xe_one (xe_not (xe_isi (by rfl) T.isinstance (by decide +kernel) (pe_bltn (v := .ty "bool") (by rfl) T.bool (by decide +kernel) rfl) (xe_var 0 (pv 0)))))))))
end K17
set_option Elab.async false
set_option linter.all false
set_option maxRecDepth 100000
set_option maxHeartbeats 4000000
namespace K17
open PySem PySem.Spec PyProof.Rows L2 Evl Kc Kz Kx Tr Mg K23 K22 K27 K24 KA KB KF KQ
abbrev s_law_is_word : Stmt := topS 45
theorem sc_law_is_word : FnScope ["_law_item", "_law_sign"] ["_law_item"] (defScope s_law_is_word) := ⟨rfl, rfl, rfl, by decide +kernel, rfl, by decide +kernel, by decide +kernel⟩
theorem tr_law_is_word {P : Program} {w : World} {K : PySem.W.Frag} {mg : Str → Option Value} {base : Heap} {f : Addr} (T : Blt mg) :
    ∀ (cdv : Value) (A : Around) (outer : List Env) (s : Shared) (H : Hp) (E : XK), Room 0 (A.deeper (envOfC "_law_is_word" (defScope s_law_is_word) s.heap.objs.size f cdv)) → TrB (cxOf (L2.CX P w) P w K mg base ["_law_item", "_law_sign"] "_law_is_word" (defScope s_law_is_word) f cdv A outer s H E) (defBody s_law_is_word) (fb_law_is_word) := by
  exact fun cdv A outer s H E hr => (TbW.run (tw_cons (ts_if (TrW.t (xw_or (xt_not (xt_val (xe_isi (by rfl) T.isinstance (by decide +kernel) (pe_bltn (v := .ty "str") (by rfl) T.str (by decide +kernel) rfl) (xe_var 0 (pv 0))))) (xw_or1 (xt_not (xt_ch op_le op_le xe_int (xe_len (by rfl) T.len (TaW.run (xw_cons (xe_var 0 (pv 0)) xw_nil))) xe_int))))) (TbW.run (tw_one (ts_ret xe_bl))) tb_nil) (tw_one (ts_ret (xe_all (by rfl) T.all rfl (TaW.run (xw_cons (xe_lc (own := [("_law_sign", 1)]) (ti_str (xe_frz 0 (pv 0))) rfl sc_law_is_word.nd (blkOk_by (N := ["_law_item", "_law_sign"]) (sc := defScope s_law_is_word) (by decide +kernel)) (fun _ _ _ _ _ => (tg_name 1 sc_law_is_word.nd rfl (by first | exact .inl rfl | exact .inr rfl))) (fun _ _ _ _ _ => (xe_in hr (by with_unfolding_all rfl) (xe_var 1 (pv 1)) xe_str))) xw_nil)))))))
end K17
set_option Elab.async false
set_option linter.all false
set_option maxRecDepth 100000
set_option maxHeartbeats 4000000
namespace K17
open PySem PySem.Spec PyProof.Rows L2 Evl Kc Kz Kx Tr Mg K23 K22 K27 K24 KA KB KF KQ
abbrev s_law_is_row : Stmt := topS 46
theorem sc_law_is_row : FnScope ["_law_fields_here", "_law_item", "_law_found", "_law_row_here", "_law_one"] ["_law_fields_here", "_law_item"] (defScope s_law_is_row) := ⟨rfl, rfl, rfl, by decide +kernel, rfl, by decide +kernel, by decide +kernel⟩
theorem tr_law_is_row {P : Program} {w : World} {K : PySem.W.Frag} {mg : Str → Option Value} {base : Heap} {f : Addr} (T : Blt mg) (d__law_is_int : DefO P w K mg base "_law_is_int" ["_law_item"] 1 F_wholeA) (d__law_is_word : DefO P w K mg base "_law_is_word" ["_law_item"] 1 F_nameA) :
    ∀ (cdv : Value) (A : Around) (outer : List Env) (s : Shared) (H : Hp) (E : XK), Room 1 (A.deeper (envOfC "_law_is_row" (defScope s_law_is_row) s.heap.objs.size f cdv)) → TrB (cxOf (L2.CX P w) P w K mg base ["_law_fields_here", "_law_item", "_law_found", "_law_row_here", "_law_one"] "_law_is_row" (defScope s_law_is_row) f cdv A outer s H E) (defBody s_law_is_row) (fb_law_is_row) := by
  exact fun cdv A outer s H E hr => (TbW.run (tw_cons (ts_if (TrW.t (xw_or (xt_not (xt_val (xe_isi (by rfl) T.isinstance (by decide +kernel) (pe_bltn (v := .ty "tuple") (by rfl) T.tuple (by decide +kernel) rfl) (xe_var 1 (pv 1))))) (xw_or1 (xt_ne hr (xe_len (by rfl) T.len (TaW.run (xw_cons (xe_var 1 (pv 1)) xw_nil))) (xe_len (by rfl) T.len (TaW.run (xw_cons (xe_var 0 (pv 0)) xw_nil))))))) (TbW.run (tw_one (ts_ret xe_bl))) tb_nil) (tw_cons (ts_lc 2 (own := [("_law_row_here", 3), ("_law_one", 4)]) (ti_zipM (by rfl) T.zip (TaW.run (xw_cons (xe_frz 0 (pv 0)) (xw_cons (xe_frz 1 (pv 1)) xw_nil)))) rfl sc_law_is_row.nd rfl rfl (sw_true rfl rfl rfl (by decide +kernel)) (blkOk_by (N := ["_law_fields_here", "_law_item", "_law_found", "_law_row_here", "_law_one"]) (sc := defScope s_law_is_row) (by decide +kernel)) (fun _ _ _ _ _ => (tg_tup (tgs_cons (tg_name 3 sc_law_is_row.nd rfl (by first | exact .inl rfl | exact .inr rfl)) (tgs_cons (tg_name 4 sc_law_is_row.nd rfl (by first | exact .inl rfl | exact .inr rfl)) tgs_nil)) rfl)) (fun _ _ _ _ _ => (xe_if (xt_eq hr (xe_at (fun _ _ => rfl) (xe_var 3 (pv 3)) xe_int) xe_str) (xe_callD d__law_is_int ⟨rfl, rfl, rfl, rfl, rfl⟩ hr (by decide) (by rfl) (TaW.run (xw_cons (xe_var 4 (pv 4)) xw_nil)) (he := star_of rfl) (hpl := plain_of rfl)) (xe_callD d__law_is_word ⟨rfl, rfl, rfl, rfl, rfl⟩ hr (by decide) (by rfl) (TaW.run (xw_cons (xe_var 4 (pv 4)) xw_nil)) (he := star_of rfl) (hpl := plain_of rfl))))) (tw_one (ts_ret (xe_all (by rfl) T.all rfl (TaW.run (xw_cons (xe_var 2 (pv 2)) xw_nil))))))))
end K17
set_option Elab.async false
set_option linter.all false
set_option maxRecDepth 100000
set_option maxHeartbeats 4000000
namespace K17
open PySem PySem.Spec PyProof.Rows L2 Evl Kc Kz Kx Tr Mg K23 K22 K27 K24 KA KB KF KQ
abbrev s_law_some_fields : Stmt := topS 47
theorem sc_law_some_fields : FnScope ["_law_pot_here", "_law_marks", "_law_sums"] ["_law_pot_here"] (defScope s_law_some_fields) := ⟨rfl, rfl, rfl, by decide +kernel, rfl, by decide +kernel, by decide +kernel⟩
theorem tr_law_some_fields {P : Program} {w : World} {K : PySem.W.Frag} {mg : Str → Option Value} {base : Heap} {f : Addr} (T : Blt mg) (d__law_draw : DefO P w K mg base "_law_draw" ["_law_pot_here", "_law_many"] 1 F_draw) (d__law_fields : DefO P w K mg base "_law_fields" ["_law_pot_here", "_law_marks", "_law_sums"] 4 F_fields) :
    ∀ (cdv : Value) (A : Around) (outer : List Env) (s : Shared) (H : Hp) (E : XK), Room 4 (A.deeper (envOfC "_law_some_fields" (defScope s_law_some_fields) s.heap.objs.size f cdv)) → TrB (cxOf (L2.CX P w) P w K mg base ["_law_pot_here", "_law_marks", "_law_sums"] "_law_some_fields" (defScope s_law_some_fields) f cdv A outer s H E) (defBody s_law_some_fields) (fb_law_some_fields) := by
  exact fun cdv A outer s H E hr => (TbW.run (tw_cons (ts_par (TaW.run (xw_cons (xe_callD d__law_draw ⟨rfl, rfl, rfl, rfl, rfl⟩ hr (by decide) (by rfl) (TaW.run (xw_cons (xe_var 0 (pv 0)) (xw_cons xe_int xw_nil))) (he := star_of rfl) (hpl := plain_of rfl)) (xw_cons (xe_callD d__law_draw ⟨rfl, rfl, rfl, rfl, rfl⟩ hr (by decide) (by rfl) (TaW.run (xw_cons (xe_var 0 (pv 0)) (xw_cons xe_int xw_nil))) (he := star_of rfl) (hpl := plain_of rfl)) xw_nil))) rfl sc_law_some_fields.nd rfl rfl (by decide) rfl rfl rfl) (tw_one (ts_ret (xe_callD d__law_fields ⟨rfl, rfl, rfl, rfl, rfl⟩ hr (by decide) (by rfl) (TaW.run (xw_cons (xe_var 0 (pv 0)) (xw_cons (xe_var 1 (pv 1)) (xw_cons (xe_max2 (by rfl) T.max rfl (TaW.run (xw_cons (xe_var 2 (pv 2)) (xw_cons (xe_toInt (by rfl) T.int (TaW.run (xw_cons (xe_eq hr (xe_var 1 (pv 1)) xe_int) xw_nil))) xw_nil)))) xw_nil)))) (he := star_of rfl) (hpl := plain_of rfl))))))
end K17
set_option Elab.async false
set_option linter.all false
set_option maxRecDepth 100000
set_option maxHeartbeats 4000000
namespace K17
open PySem PySem.Spec PyProof.Rows L2 Evl Kc Kz Kx Tr Mg K23 K22 K27 K24 KA KB KF KQ
abbrev s_law_number_in : Stmt := topS 48
theorem sc_law_number_in : FnScope ["_law_part", "_law_digits", "_law_sign"] ["_law_part"] (defScope s_law_number_in) := ⟨rfl, rfl, rfl, by decide +kernel, rfl, by decide +kernel, by decide +kernel⟩
theorem tr_law_number_in {P : Program} {w : World} {K : PySem.W.Frag} {mg : Str → Option Value} {base : Heap} {f : Addr} (T : Blt mg) :
    ∀ (cdv : Value) (A : Around) (outer : List Env) (s : Shared) (H : Hp) (E : XK), Room 0 (A.deeper (envOfC "_law_number_in" (defScope s_law_number_in) s.heap.objs.size f cdv)) → TrB (cxOf (L2.CX P w) P w K mg base ["_law_part", "_law_digits", "_law_sign"] "_law_number_in" (defScope s_law_number_in) f cdv A outer s H E) (defBody s_law_number_in) (fb_law_number_in) := by
  exact fun cdv A outer s H E hr => (TbW.run (tw_cons (ts_set 1 (xe_if (xt_eq hr (xe_slice (xe_var 0 (pv 0)) xo_none (xo_some xe_int)) xe_str) (xe_slice (xe_var 0 (pv 0)) (xo_some xe_int) xo_none) (xe_var 0 (pv 0))) sc_law_number_in.nd rfl (by first | exact .inl rfl | exact .inr rfl)) (tw_cons (ts_if (TrW.t (xw_or (xt_eq hr (xe_var 1 (pv 1)) xe_str) (xw_or1 (xt_ne hr (xe_lcif (own := [("_law_sign", 2)]) (ti_str (xe_frz 1 (pv 1))) rfl sc_law_number_in.nd (blkOk_by (N := ["_law_part", "_law_digits", "_law_sign"]) (sc := defScope s_law_number_in) (by decide +kernel)) (fun _ _ _ _ _ => (tg_name 2 sc_law_number_in.nd rfl (by first | exact .inl rfl | exact .inr rfl))) (fun _ _ _ _ _ => (xt_notIn hr (by with_unfolding_all rfl) (xe_var 2 (pv 2)) xe_str)) (fun _ _ _ _ _ => (xe_frz 2 (pv 2)))) (xe_lstW xw_nil))))) (TbW.run (tw_one (ts_ret xe_non))) tb_nil) (tw_one (ts_ret (xe_if (xt_eq hr (xe_toStr (by rfl) T.str (TaW.run (xw_cons (xe_intS (by rfl) T.int (TaW.run (xw_cons (xe_var 0 (pv 0)) xw_nil))) xw_nil))) (xe_var 0 (pv 0))) (xe_intS (by rfl) T.int (TaW.run (xw_cons (xe_var 0 (pv 0)) xw_nil))) xe_non))))))
end K17
set_option Elab.async false
set_option linter.all false
set_option maxRecDepth 100000
set_option maxHeartbeats 4000000
namespace K17
open PySem PySem.Spec PyProof.Rows L2 Evl Kc Kz Kx Tr Mg K23 K22 K27 K24 KA KB KF KQ
abbrev s_law_row_in : Stmt := topS 49
theorem sc_law_row_in : FnScope ["_law_rows_here", "_law_note", "_law_parts", "_law_found", "_law_row_here", "_law_part"] ["_law_rows_here", "_law_note"] (defScope s_law_row_in) := ⟨rfl, rfl, rfl, by decide +kernel, rfl, by decide +kernel, by decide +kernel⟩
theorem tr_law_row_in {P : Program} {w : World} {K : PySem.W.Frag} {mg : Str → Option Value} {base : Heap} {f : Addr} (T : Blt mg) (d__law_number_in : DefO P w K mg base "_law_number_in" ["_law_part"] 1 F_numIn) (d__law_is_row : DefO P w K mg base "_law_is_row" ["_law_fields_here", "_law_item"] 2 F_rowA) :
    ∀ (cdv : Value) (A : Around) (outer : List Env) (s : Shared) (H : Hp) (E : XK), Room 2 (A.deeper (envOfC "_law_row_in" (defScope s_law_row_in) s.heap.objs.size f cdv)) → TrB (cxOf (L2.CX P w) P w K mg base ["_law_rows_here", "_law_note", "_law_parts", "_law_found", "_law_row_here", "_law_part"] "_law_row_in" (defScope s_law_row_in) f cdv A outer s H E) (defBody s_law_row_in) (fb_law_row_in) := by
  exact fun cdv A outer s H E hr => (TbW.run (tw_cons (ts_parK (xe_split (xe_var 1 (pv 1)) (TaW.run (xw_cons xe_str xw_nil))) (xe_lstW xw_nil) rfl sc_law_row_in.nd rfl rfl (by decide) rfl rfl rfl) (tw_cons (ts_if (xt_ne hr (xe_len (by rfl) T.len (TaW.run (xw_cons (xe_frz 2 (pv 2)) xw_nil))) (xe_len (by rfl) T.len (TaW.run (xw_cons (xe_var 0 (pv 0)) xw_nil)))) (TbW.run (tw_one (ts_ret xe_non))) tb_nil) (tw_cons (ts_for (ti_zip (by rfl) T.zip (TaW.run (xw_cons (xe_frz 0 (pv 0)) (xw_cons (xe_frz 2 (pv 2)) xw_nil)))) (tg_tup (tgs_cons (tg_name 4 sc_law_row_in.nd rfl (by first | exact .inl rfl | exact .inr rfl)) (tgs_cons (tg_name 5 sc_law_row_in.nd rfl (by first | exact .inl rfl | exact .inr rfl)) tgs_nil)) rfl) (TbW.run (tw_one (ts_expr (xe_append 3 (pv 3) (TaW.run (xw_cons (xe_if (xt_eq hr (xe_at (fun _ _ => rfl) (xe_var 4 (pv 4)) xe_int) xe_str) (xe_callD d__law_number_in ⟨rfl, rfl, rfl, rfl, rfl⟩ hr (by decide) (by rfl) (TaW.run (xw_cons (xe_var 5 (pv 5)) xw_nil)) (he := star_of rfl) (hpl := plain_of rfl)) (xe_frz 5 (pv 5))) xw_nil)))))) (passes_of rfl) rfl) (tw_one (ts_ret (xe_if (xt_val (xe_callD d__law_is_row ⟨rfl, rfl, rfl, rfl, rfl⟩ hr (by decide) (by rfl) (TaW.run (xw_cons (xe_var 0 (pv 0)) (xw_cons (xe_tuple (by rfl) T.tuple (TaW.run (xw_cons (xe_var 3 (pv 3)) xw_nil))) xw_nil))) (he := star_of rfl) (hpl := plain_of rfl))) (xe_tuple (by rfl) T.tuple (TaW.run (xw_cons (xe_var 3 (pv 3)) xw_nil))) xe_non)))))))
end K17
set_option Elab.async false
set_option linter.all false
set_option maxRecDepth 100000
set_option maxHeartbeats 4000000
namespace K17
open PySem PySem.Spec PyProof.Rows L2 Evl Kc Kz Kx Tr Mg K23 K22 K27 K24 KA KB KF KQ
abbrev s_law_line_of : Stmt := topS 50
theorem sc_law_line_of : FnScope ["_law_rows_here", "_law_row_here", "_law_at"] ["_law_rows_here", "_law_row_here"] (defScope s_law_line_of) := ⟨rfl, rfl, rfl, by decide +kernel, rfl, by decide +kernel, by decide +kernel⟩
theorem tr_law_line_of {P : Program} {w : World} {K : PySem.W.Frag} {mg : Str → Option Value} {base : Heap} {f : Addr} (T : Blt mg) :
    ∀ (cdv : Value) (A : Around) (outer : List Env) (s : Shared) (H : Hp) (E : XK), Room 0 (A.deeper (envOfC "_law_line_of" (defScope s_law_line_of) s.heap.objs.size f cdv)) → TrB (cxOf (L2.CX P w) P w K mg base ["_law_rows_here", "_law_row_here", "_law_at"] "_law_line_of" (defScope s_law_line_of) f cdv A outer s H E) (defBody s_law_line_of) (fb_law_line_of) := by
  exact fun cdv A outer s H E hr => (TbW.run (tw_one (ts_ret (xe_join xe_str (TaW.run (xw_cons (xe_lc (own := [("_law_at", 2)]) (ti_range1 (by rfl) T.range (TaW.run (xw_cons (xe_len (by rfl) T.len (TaW.run (xw_cons (xe_var 0 (pv 0)) xw_nil))) xw_nil))) rfl sc_law_line_of.nd (blkOk_by (N := ["_law_rows_here", "_law_row_here", "_law_at"]) (sc := defScope s_law_line_of) (by decide +kernel)) (fun _ _ _ _ _ => (tg_name 2 sc_law_line_of.nd rfl (by first | exact .inl rfl | exact .inr rfl))) (fun _ _ _ _ _ => (xe_if (xt_ne hr (xe_at (fun _ _ => rfl) (xe_at (fun _ _ => rfl) (xe_var 0 (pv 0)) (xe_var 2 (pv 2))) xe_int) xe_str) (xe_at (fun _ _ => rfl) (xe_var 1 (pv 1)) (xe_var 2 (pv 2))) (xe_toStr (by rfl) T.str (TaW.run (xw_cons (xe_at (fun _ _ => rfl) (xe_var 1 (pv 1)) (xe_var 2 (pv 2))) xw_nil)))))) xw_nil))))))
end K17
set_option Elab.async false
set_option linter.all false
set_option maxRecDepth 100000
set_option maxHeartbeats 4000000
namespace K17
open PySem PySem.Spec PyProof.Rows L2 Evl Kc Kz Kx Tr Mg K23 K22 K27 K24 KA KB KF KQ
abbrev s_law_met : Stmt := topS 51
theorem sc_law_met : FnScope ["_law_made", "_law_note", "_law_told", "e", "_law_others"] ["_law_made", "_law_note"] (defScope s_law_met) := ⟨rfl, rfl, rfl, by decide +kernel, rfl, by decide +kernel, by decide +kernel⟩
theorem tr_law_met {P : Program} {w : World} {K : PySem.W.Frag} {mg : Str → Option Value} {base : Heap} {f : Addr} {D_InvalidCommand : Addr} {D_InvalidSchema : Addr} {D_InvalidText : Addr} {D_InvalidVersion : Addr} {D_MergeError : Addr} {C : Addr} (T : Blt mg) (d_read_version : DefO P w K mg base "read_version" ["schema", "text"] 4 (F_readX C D_InvalidText)) (mE_InvalidText : mg "InvalidText" = some (.ref D_InvalidText)) (tE_InvalidText : PySem.W.exmOne K (.ref D_InvalidText) (.ref D_InvalidText) = some true) (ec_InvalidText : ExcC K D_InvalidText) (m_InvalidVersion : mg "InvalidVersion" = some (.ref D_InvalidVersion)) (m_InvalidCommand : mg "InvalidCommand" = some (.ref D_InvalidCommand)) (m_InvalidSchema : mg "InvalidSchema" = some (.ref D_InvalidSchema)) (ka_InvalidText_InvalidVersion_InvalidCommand_InvalidSchema : PySem.W.kitAny K (.ref D_InvalidText) [(.ref D_InvalidVersion), (.ref D_InvalidCommand), (.ref D_InvalidSchema)] = some false) (m_MergeError : mg "MergeError" = some (.ref D_MergeError)) (ki_InvalidText_MergeError : PySem.W.kitOne K (.ref D_InvalidText) (.ref D_MergeError) = some true) (xf_InvalidText : XfC K D_InvalidText) (no_InvalidText_line : PySem.W.findIn K (.ref D_InvalidText) "line" = some none) :
    ∀ (cdv : Value) (A : Around) (outer : List Env) (s : Shared) (H : Hp) (E : XK), Room 4 (A.deeper (envOfC "_law_met" (defScope s_law_met) s.heap.objs.size f cdv)) → TrB (cxOf (L2.CX P w) P w K mg base ["_law_made", "_law_note", "_law_told", "e", "_law_others"] "_law_met" (defScope s_law_met) f cdv A outer s H E) (defBody s_law_met) (fb_law_met C D_InvalidText) := by
  exact fun cdv A outer s H E hr => (TbW.run (tw_consV (ts_setV 2 (xe_lstV (xw_cons xe_str xw_nil)) sc_law_met.nd rfl (by first | exact .inl rfl | exact .inr rfl)) (tw_cons (ts_tryAs 3 rfl rfl sc_law_met.nd rfl rfl (by rfl) mE_InvalidText tE_InvalidText (fun pn xe => (TbW.run (tw_oneV (ts_setV 2 (xe_lstV (xw_cons xe_str (xw_cons (xe_callD d_read_version ⟨rfl, rfl, rfl, rfl, rfl⟩ hr (by decide) (by rfl) (TaW.run (xw_cons (xe_var 0 (pv 0)) (xw_cons (xe_var 1 (pv 1)) xw_nil))) (he := star_of rfl) (hpl := plain_of rfl)) xw_nil))) sc_law_met.nd rfl (by first | exact .inl rfl | exact .inr rfl))))) (fun a dd oe pn hz hf => (TbW.run (tw_cons (ts_set 4 (xe_isXT hz hf (by rfl) T.isinstance (pv 3) (cla_cons (pe_glob (v := .ref D_InvalidVersion) (by rfl) m_InvalidVersion rfl) (cla_cons (pe_glob (v := .ref D_InvalidCommand) (by rfl) m_InvalidCommand rfl) (cla_cons (pe_glob (v := .ref D_InvalidSchema) (by rfl) m_InvalidSchema rfl) cla_nil))) (by show 3 ≤ sizeLine; decide) (.cons (.own D_InvalidVersion) (.cons (.own D_InvalidCommand) (.cons (.own D_InvalidSchema) .nil))) ec_InvalidText ka_InvalidText_InvalidVersion_InvalidCommand_InvalidSchema) sc_law_met.nd rfl (by first | exact .inl rfl | exact .inr rfl)) (tw_one (ts_set 2 (xe_if (TrW.t (xw_and (xt_val (xe_isX hz hf (by rfl) T.isinstance (pv 3) (pe_glob (v := .ref D_MergeError) (by rfl) m_MergeError rfl) (.own D_MergeError) ec_InvalidText ki_InvalidText_MergeError)) (xw_and1 (xt_not (xt_val (xe_var 4 (pv 4))))))) (xe_lstW (xw_cons xe_str (xw_cons (xe_xf xf_InvalidText no_InvalidText_line hz hf (pv 3)) xw_nil))) (xe_lstW (xw_cons xe_str xw_nil))) sc_law_met.nd rfl (by first | exact .inl rfl | exact .inr rfl))))))) (tw_one (ts_ret (xe_var 2 (pv 2)))))))
end K17
set_option Elab.async false
set_option linter.all false
set_option maxRecDepth 100000
set_option maxHeartbeats 4000000
namespace K17
open PySem PySem.Spec PyProof.Rows L2 Evl Kc Kz Kx Tr Mg K23 K22 K27 K24 KA KB KF KQ
abbrev s_law_bent : Stmt := topS 52
theorem sc_law_bent : FnScope ["_law_pot_here", "_law_note", "_law_at", "_law_way", "_law_odd", "_law_parts", "_law_spot", "_law_part", "_law_some"] ["_law_pot_here", "_law_note"] (defScope s_law_bent) := ⟨rfl, rfl, rfl, by decide +kernel, rfl, by decide +kernel, by decide +kernel⟩
theorem tr_law_bent {P : Program} {w : World} {K : PySem.W.Frag} {mg : Str → Option Value} {base : Heap} {f : Addr} (T : Blt mg) (d__law_draw : DefO P w K mg base "_law_draw" ["_law_pot_here", "_law_many"] 1 F_draw) :
    ∀ (cdv : Value) (A : Around) (outer : List Env) (s : Shared) (H : Hp) (E : XK), Room 1 (A.deeper (envOfC "_law_bent" (defScope s_law_bent) s.heap.objs.size f cdv)) → TrB (cxOf (L2.CX P w) P w K mg base ["_law_pot_here", "_law_note", "_law_at", "_law_way", "_law_odd", "_law_parts", "_law_spot", "_law_part", "_law_some"] "_law_bent" (defScope s_law_bent) f cdv A outer s H E) (defBody s_law_bent) (fb_law_bent) := by
  exact fun cdv A outer s H E hr => (TbW.run (tw_cons (ts_par (TaW.run (xw_cons (xe_callD d__law_draw ⟨rfl, rfl, rfl, rfl, rfl⟩ hr (by decide) (by rfl) (TaW.run (xw_cons (xe_var 0 (pv 0)) (xw_cons (xe_add (xe_len (by rfl) T.len (TaW.run (xw_cons (xe_var 1 (pv 1)) xw_nil))) xe_int) xw_nil))) (he := star_of rfl) (hpl := plain_of rfl)) (xw_cons (xe_callD d__law_draw ⟨rfl, rfl, rfl, rfl, rfl⟩ hr (by decide) (by rfl) (TaW.run (xw_cons (xe_var 0 (pv 0)) (xw_cons xe_int xw_nil))) (he := star_of rfl) (hpl := plain_of rfl)) xw_nil))) rfl sc_law_bent.nd rfl rfl (by decide) rfl rfl rfl) (tw_cons (ts_set 4 (xe_at (fun _ _ => rfl) xe_str (xe_callD d__law_draw ⟨rfl, rfl, rfl, rfl, rfl⟩ hr (by decide) (by rfl) (TaW.run (xw_cons (xe_var 0 (pv 0)) (xw_cons xe_int xw_nil))) (he := star_of rfl) (hpl := plain_of rfl))) sc_law_bent.nd rfl (by first | exact .inl rfl | exact .inr rfl)) (tw_cons (ts_if (xt_eq hr (xe_var 3 (pv 3)) xe_int) (TbW.run (tw_one (ts_ret (xe_add (xe_add (xe_slice (xe_var 1 (pv 1)) xo_none (xo_some (xe_var 2 (pv 2)))) (xe_var 4 (pv 4))) (xe_slice (xe_var 1 (pv 1)) (xo_some (xe_var 2 (pv 2))) xo_none))))) tb_nil) (tw_cons (ts_if (xt_eq hr (xe_var 3 (pv 3)) xe_int) (TbW.run (tw_one (ts_ret (xe_add (xe_slice (xe_var 1 (pv 1)) xo_none (xo_some (xe_var 2 (pv 2)))) (xe_slice (xe_var 1 (pv 1)) (xo_some (xe_add (xe_var 2 (pv 2)) xe_int)) xo_none))))) tb_nil) (tw_cons (ts_if (xt_eq hr (xe_var 3 (pv 3)) xe_int) (TbW.run (tw_one (ts_ret (xe_add (xe_add (xe_slice (xe_var 1 (pv 1)) xo_none (xo_some (xe_var 2 (pv 2)))) (xe_var 4 (pv 4))) (xe_slice (xe_var 1 (pv 1)) (xo_some (xe_add (xe_var 2 (pv 2)) xe_int)) xo_none))))) tb_nil) (tw_cons (ts_set 5 (xe_split (xe_var 1 (pv 1)) (TaW.run (xw_cons xe_str xw_nil))) sc_law_bent.nd rfl (by first | exact .inl rfl | exact .inr rfl)) (tw_cons (ts_set 6 (xe_callD d__law_draw ⟨rfl, rfl, rfl, rfl, rfl⟩ hr (by decide) (by rfl) (TaW.run (xw_cons (xe_var 0 (pv 0)) (xw_cons (xe_len (by rfl) T.len (TaW.run (xw_cons (xe_var 5 (pv 5)) xw_nil))) xw_nil))) (he := star_of rfl) (hpl := plain_of rfl)) sc_law_bent.nd rfl (by first | exact .inl rfl | exact .inr rfl)) (tw_cons (ts_set 7 (xe_at (fun _ _ => rfl) (xe_var 5 (pv 5)) (xe_var 6 (pv 6))) sc_law_bent.nd rfl (by first | exact .inl rfl | exact .inr rfl)) (tw_consV (ts_setV 8 (xe_lstV (xw_cons xe_str (xw_cons (xe_add xe_str (xe_var 7 (pv 7))) (xw_cons (xe_add xe_str (xe_var 7 (pv 7))) (xw_cons xe_str (xw_cons xe_str (xw_cons (xe_add (xe_var 7 (pv 7)) xe_str) (xw_cons xe_str (xw_cons (xe_up (xe_var 7 (pv 7))) (xw_cons xe_str (xw_cons (xe_add xe_str (xe_var 7 (pv 7))) xw_nil))))))))))) sc_law_bent.nd rfl (by first | exact .inl rfl | exact .inr rfl)) (tw_one (ts_ret (xe_join xe_str (TaW.run (xw_cons (xe_add (xe_addV (xe_slice (xe_var 5 (pv 5)) xo_none (xo_some (xe_var 6 (pv 6)))) (xe_lstV (xw_cons (xe_at (fun _ _ => rfl) (xe_var 8 (pv 8)) (xe_callD d__law_draw ⟨rfl, rfl, rfl, rfl, rfl⟩ hr (by decide) (by rfl) (TaW.run (xw_cons (xe_var 0 (pv 0)) (xw_cons xe_int xw_nil))) (he := star_of rfl) (hpl := plain_of rfl))) xw_nil))) (xe_slice (xe_var 5 (pv 5)) (xo_some (xe_add (xe_var 6 (pv 6)) xe_int)) xo_none)) xw_nil)))))))))))))))
end K17
set_option Elab.async false
set_option linter.all false
set_option maxRecDepth 100000
set_option maxHeartbeats 4000000
namespace K17
open PySem PySem.Spec PyProof.Rows L2 Evl Kc Kz Kx Tr Mg K23 K22 K27 K24 KA KB KF KQ
abbrev s_law_is_short : Stmt := topS 53
theorem sc_law_is_short : FnScope ["_law_note", "_law_many", "_law_sign"] ["_law_note"] (defScope s_law_is_short) := ⟨rfl, rfl, rfl, by decide +kernel, rfl, by decide +kernel, by decide +kernel⟩
theorem tr_law_is_short {P : Program} {w : World} {K : PySem.W.Frag} {mg : Str → Option Value} {base : Heap} {f : Addr} (T : Blt mg) :
    ∀ (cdv : Value) (A : Around) (outer : List Env) (s : Shared) (H : Hp) (E : XK), Room 0 (A.deeper (envOfC "_law_is_short" (defScope s_law_is_short) s.heap.objs.size f cdv)) → TrB (cxOf (L2.CX P w) P w K mg base ["_law_note", "_law_many", "_law_sign"] "_law_is_short" (defScope s_law_is_short) f cdv A outer s H E) (defBody s_law_is_short) (fb_law_is_short) := by
  exact fun cdv A outer s H E hr => (TbW.run (tw_cons (ts_set 1 xe_int sc_law_is_short.nd rfl (by first | exact .inl rfl | exact .inr rfl)) (tw_cons (ts_for (ti_str (xe_frz 0 (pv 0))) (tg_name 2 sc_law_is_short.nd rfl (by first | exact .inl rfl | exact .inr rfl)) (TbW.run (tw_cons (ts_set 1 (xe_if (xt_in hr (by with_unfolding_all rfl) (xe_var 2 (pv 2)) xe_str) (xe_add (xe_var 1 (pv 1)) xe_int) xe_int) sc_law_is_short.nd rfl (by first | exact .inl rfl | exact .inr rfl)) (tw_one (ts_if (xt_gt (xe_var 1 (pv 1)) xe_int) (TbW.run (tw_one (ts_ret xe_bl))) tb_nil)))) (passes_of rfl) rfl) (tw_one (ts_ret xe_bl)))))
end K17
set_option Elab.async false
set_option linter.all false
set_option maxRecDepth 100000
set_option maxHeartbeats 4000000
namespace K17
open PySem PySem.Spec PyProof.Rows L2 Evl Kc Kz Kx Tr Mg K23 K22 K27 K24 KA KB KF KQ
abbrev s_law : Stmt := topS 54
theorem sc_law : FnScope ["_law_script", "_law_k", "_law_pot_here", "_law_rows_here", "_law_made", "_law_row_here", "_law_note", "_law_far", "_law_great", "_law_line", "_law_turn", "_law_other", "_law_found", "_law_due", "_law_item", "_law_odd", "_law_told", "e", "_law_one"] ["_law_script"] (defScope s_law) := ⟨rfl, rfl, rfl, by decide +kernel, rfl, by decide +kernel, by decide +kernel⟩
theorem tr_law {P : Program} {w : World} {K : PySem.W.Frag} {mg : Str → Option Value} {base : Heap} {f : Addr} {D_InvalidText : Addr} {D_InvalidVersion : Addr} {C : Addr} (T : Blt mg) (dS : SchM P w K mg base C) (d__law_pot : DefO P w K mg base "_law_pot" ["_law_script", "_law_k"] 1 F_pot) (d__law_some_fields : DefO P w K mg base "_law_some_fields" ["_law_pot_here"] 5 F_somef) (d__law_rows : DefO P w K mg base "_law_rows" ["_law_pot_here", "_law_fields_here", "_law_most", "_law_far"] 5 F_rows) (d__law_draw : DefO P w K mg base "_law_draw" ["_law_pot_here", "_law_many"] 1 F_draw) (d__law_line_of : DefO P w K mg base "_law_line_of" ["_law_rows_here", "_law_row_here"] 1 F_lineOf) (d_read_version : DefO P w K mg base "read_version" ["schema", "text"] 4 (F_readX C D_InvalidText)) (d_version_text : DefO P w K mg base "version_text" ["schema", "version"] 10 (F_verTX C D_InvalidVersion)) (d__law_is_int : DefO P w K mg base "_law_is_int" ["_law_item"] 1 F_wholeA) (d__law_bent : DefO P w K mg base "_law_bent" ["_law_pot_here", "_law_note"] 2 F_bent17) (d__law_row_in : DefO P w K mg base "_law_row_in" ["_law_rows_here", "_law_note"] 3 F_rowIn) (d__law_met : DefO P w K mg base "_law_met" ["_law_made", "_law_note"] 5 (F_met17 C)) (d__law_is_short : DefO P w K mg base "_law_is_short" ["_law_note"] 1 F_short) (mE_InvalidVersion : mg "InvalidVersion" = some (.ref D_InvalidVersion)) (tE_InvalidVersion : PySem.W.exmOne K (.ref D_InvalidVersion) (.ref D_InvalidVersion) = some true) (hM : Mods base) (dk_read_version : DefK P w K mg base "read_version" "schema" "text" 4 (F_readX C D_InvalidText)) (dk_version_text : DefK P w K mg base "version_text" "schema" "version" 10 (F_verTX C D_InvalidVersion)) (xf_InvalidVersion : XfC K D_InvalidVersion) (no_InvalidVersion_version : PySem.W.findIn K (.ref D_InvalidVersion) "version" = some none) :
    ∀ (cdv : Value) (A : Around) (outer : List Env) (s : Shared) (H : Hp) (E : XK), A.guards = some [] → Room 10 (A.deeper (envOfC "law" (defScope s_law) s.heap.objs.size f cdv)) → TrB (cxOf (L2.CX P w) P w K mg base ["_law_script", "_law_k", "_law_pot_here", "_law_rows_here", "_law_made", "_law_row_here", "_law_note", "_law_far", "_law_great", "_law_line", "_law_turn", "_law_other", "_law_found", "_law_due", "_law_item", "_law_odd", "_law_told", "e", "_law_one"] "law" (defScope s_law) f cdv A outer s H E) (defBody s_law) (fb_law C D_InvalidText D_InvalidVersion) := by
  exact fun cdv A outer s H E gd hr => (TbW.run (tw_cons (ts_for (ti_range1 (by rfl) T.range (TaW.run (xw_cons (xe_max2 (by rfl) T.max rfl (TaW.run (xw_cons xe_int (xw_cons (xe_min2 (by rfl) T.min rfl (TaW.run (xw_cons xe_int (xw_cons (xe_scrLen (by rfl) T.len (xe_var 0 (pv 0))) xw_nil)))) xw_nil)))) xw_nil))) (tg_name 1 sc_law.nd rfl (by first | exact .inl rfl | exact .inr rfl)) (TbW.run (tw_cons (ts_set 2 (xe_callD d__law_pot ⟨rfl, rfl, rfl, rfl, rfl⟩ hr (by decide) (by rfl) (TaW.run (xw_cons (xe_var 0 (pv 0)) (xw_cons (xe_var 1 (pv 1)) xw_nil))) (he := star_of rfl) (hpl := plain_of rfl)) sc_law.nd rfl (by first | exact .inl rfl | exact .inr rfl)) (tw_cons (ts_set 3 (xe_callD d__law_some_fields ⟨rfl, rfl, rfl, rfl, rfl⟩ hr (by decide) (by rfl) (TaW.run (xw_cons (xe_var 2 (pv 2)) xw_nil)) (he := star_of rfl) (hpl := plain_of rfl)) sc_law.nd rfl (by first | exact .inl rfl | exact .inr rfl)) (tw_cons (ts_par (TaW.run (xw_cons (xe_makeS dS ⟨rfl, rfl, rfl, rfl, rfl⟩ hr (by decide) (by rfl) (TaW.run (xw_cons (xe_frz 3 (pv 3)) xw_nil))) (xw_cons (xe_at (fun _ _ => rfl) (xe_callD d__law_rows ⟨rfl, rfl, rfl, rfl, rfl⟩ hr (by decide) (by rfl) (TaW.run (xw_cons (xe_var 2 (pv 2)) (xw_cons (xe_frz 3 (pv 3)) (xw_cons xe_int (xw_cons (xe_callD d__law_draw ⟨rfl, rfl, rfl, rfl, rfl⟩ hr (by decide) (by rfl) (TaW.run (xw_cons (xe_var 2 (pv 2)) (xw_cons xe_int xw_nil))) (he := star_of rfl) (hpl := plain_of rfl)) xw_nil))))) (he := star_of rfl) (hpl := plain_of rfl)) xe_int) xw_nil))) rfl sc_law.nd rfl rfl (by decide) rfl rfl rfl) (tw_cons (ts_set 6 (xe_callD d__law_line_of ⟨rfl, rfl, rfl, rfl, rfl⟩ hr (by decide) (by rfl) (TaW.run (xw_cons (xe_frz 3 (pv 3)) (xw_cons (xe_var 5 (pv 5)) xw_nil))) (he := star_of rfl) (hpl := plain_of rfl)) sc_law.nd rfl (by first | exact .inl rfl | exact .inr rfl)) (tw_cons (ts_if (xt_neT (xe_reprX hM gd hr (by rfl) T.repr (TaW.run (xv_cons (xe_lstV (xw_cons (xe_callD d_version_text ⟨rfl, rfl, rfl, rfl, rfl⟩ hr (by decide) (by rfl) (TaW.run (xw_cons (xe_var 4 (pv 4)) (xw_cons (xe_var 5 (pv 5)) xw_nil))) (he := star_of rfl) (hpl := plain_of rfl)) (xw_cons (xe_callD d_read_version ⟨rfl, rfl, rfl, rfl, rfl⟩ hr (by decide) (by rfl) (TaW.run (xw_cons (xe_var 4 (pv 4)) (xw_cons (xe_var 6 (pv 6)) xw_nil))) (he := star_of rfl) (hpl := plain_of rfl)) xw_nil))) xw_nil))) (xe_reprX hM gd hr (by rfl) T.repr (TaW.run (xv_cons (xe_lstV (xw_cons (xe_frz 6 (pv 6)) (xw_cons (xe_frz 5 (pv 5)) xw_nil))) xw_nil)))) (TbW.run (tw_one (ts_ret xe_bl))) tb_nil) (tw_cons (ts_if (xt_neT (xe_reprX hM gd hr (by rfl) T.repr (TaW.run (xv_cons (xe_lstV (xw_cons (xe_callDK dk_version_text ⟨rfl, rfl, rfl, rfl, rfl⟩ gd hr (by decide) (by rfl) (xe_var 5 (pv 5)) (xe_var 4 (pv 4))) (xw_cons (xe_callDK dk_read_version ⟨rfl, rfl, rfl, rfl, rfl⟩ gd hr (by decide) (by rfl) (xe_var 6 (pv 6)) (xe_var 4 (pv 4))) xw_nil))) xw_nil))) (xe_reprX hM gd hr (by rfl) T.repr (TaW.run (xv_cons (xe_lstV (xw_cons (xe_frz 6 (pv 6)) (xw_cons (xe_frz 5 (pv 5)) xw_nil))) xw_nil)))) (TbW.run (tw_one (ts_ret xe_bl))) tb_nil) (tw_cons (ts_set 7 (xe_add (xe_pow xe_int xe_int) (xe_callD d__law_draw ⟨rfl, rfl, rfl, rfl, rfl⟩ hr (by decide) (by rfl) (TaW.run (xw_cons (xe_var 2 (pv 2)) (xw_cons (xe_pow xe_int xe_int) xw_nil))) (he := star_of rfl) (hpl := plain_of rfl))) sc_law.nd rfl (by first | exact .inl rfl | exact .inr rfl)) (tw_cons (ts_set 8 (xe_tuple (by rfl) T.tuple (TaW.run (xw_cons (xe_lc (own := [("_law_one", 18)]) (ti_tup (xe_frz 5 (pv 5))) rfl sc_law.nd (blkOk_by (N := ["_law_script", "_law_k", "_law_pot_here", "_law_rows_here", "_law_made", "_law_row_here", "_law_note", "_law_far", "_law_great", "_law_line", "_law_turn", "_law_other", "_law_found", "_law_due", "_law_item", "_law_odd", "_law_told", "e", "_law_one"]) (sc := defScope s_law) (by decide +kernel)) (fun _ _ _ _ _ => (tg_name 18 sc_law.nd rfl (by first | exact .inl rfl | exact .inr rfl))) (fun _ _ _ _ _ => (xe_if (xt_val (xe_callD d__law_is_int ⟨rfl, rfl, rfl, rfl, rfl⟩ hr (by decide) (by rfl) (TaW.run (xw_cons (xe_var 18 (pv 18)) xw_nil)) (he := star_of rfl) (hpl := plain_of rfl))) (xe_at (fun _ _ => rfl) (xe_lstW (xw_cons (xe_frz 7 (pv 7)) (xw_cons (xe_neg (xe_var 7 (pv 7)) un_neg) xw_nil))) (xe_callD d__law_draw ⟨rfl, rfl, rfl, rfl, rfl⟩ hr (by decide) (by rfl) (TaW.run (xw_cons (xe_var 2 (pv 2)) (xw_cons xe_int xw_nil))) (he := star_of rfl) (hpl := plain_of rfl))) (xe_frz 18 (pv 18))))) xw_nil))) sc_law.nd rfl (by first | exact .inl rfl | exact .inr rfl)) (tw_cons (ts_set 9 (xe_callD d__law_line_of ⟨rfl, rfl, rfl, rfl, rfl⟩ hr (by decide) (by rfl) (TaW.run (xw_cons (xe_frz 3 (pv 3)) (xw_cons (xe_var 8 (pv 8)) xw_nil))) (he := star_of rfl) (hpl := plain_of rfl)) sc_law.nd rfl (by first | exact .inl rfl | exact .inr rfl)) (tw_cons (ts_if (TrW.t (xw_or (xt_neZ hr (xe_callD d_read_version ⟨rfl, rfl, rfl, rfl, rfl⟩ hr (by decide) (by rfl) (TaW.run (xw_cons (xe_var 4 (pv 4)) (xw_cons (xe_var 9 (pv 9)) xw_nil))) (he := star_of rfl) (hpl := plain_of rfl)) (xe_var 8 (pv 8))) (xw_or1 (xt_neZ hr (xe_callD d_version_text ⟨rfl, rfl, rfl, rfl, rfl⟩ hr (by decide) (by rfl) (TaW.run (xw_cons (xe_var 4 (pv 4)) (xw_cons (xe_var 8 (pv 8)) xw_nil))) (he := star_of rfl) (hpl := plain_of rfl)) (xe_var 9 (pv 9)))))) (TbW.run (tw_one (ts_ret xe_bl))) tb_nil) (tw_cons (ts_for (ti_range1 (by rfl) T.range (TaW.run (xw_cons xe_int xw_nil))) (tg_name 10 sc_law.nd rfl (by first | exact .inl rfl | exact .inr rfl)) (TbW.run (tw_cons (ts_set 11 (xe_callD d__law_bent ⟨rfl, rfl, rfl, rfl, rfl⟩ hr (by decide) (by rfl) (TaW.run (xw_cons (xe_var 2 (pv 2)) (xw_cons (xe_var 6 (pv 6)) xw_nil))) (he := star_of rfl) (hpl := plain_of rfl)) sc_law.nd rfl (by first | exact .inl rfl | exact .inr rfl)) (tw_cons (ts_if (xt_eq hr (xe_callD d__law_draw ⟨rfl, rfl, rfl, rfl, rfl⟩ hr (by decide) (by rfl) (TaW.run (xw_cons (xe_var 2 (pv 2)) (xw_cons xe_int xw_nil))) (he := star_of rfl) (hpl := plain_of rfl)) xe_int) (TbW.run (tw_one (ts_set 11 (xe_callD d__law_bent ⟨rfl, rfl, rfl, rfl, rfl⟩ hr (by decide) (by rfl) (TaW.run (xw_cons (xe_var 2 (pv 2)) (xw_cons (xe_var 11 (pv 11)) xw_nil))) (he := star_of rfl) (hpl := plain_of rfl)) sc_law.nd rfl (by first | exact .inl rfl | exact .inr rfl)))) tb_nil) (tw_cons (ts_set 12 (xe_callD d__law_row_in ⟨rfl, rfl, rfl, rfl, rfl⟩ hr (by decide) (by rfl) (TaW.run (xw_cons (xe_frz 3 (pv 3)) (xw_cons (xe_var 11 (pv 11)) xw_nil))) (he := star_of rfl) (hpl := plain_of rfl)) sc_law.nd rfl (by first | exact .inl rfl | exact .inr rfl)) (tw_cons (ts_set 13 (xe_if (xt_is (xe_var 12 (pv 12)) xe_non) (xe_lstW (xw_cons xe_str (xw_cons xe_int xw_nil))) (xe_lstW (xw_cons xe_str (xw_cons (xe_frz 12 (pv 12)) xw_nil)))) sc_law.nd rfl (by first | exact .inl rfl | exact .inr rfl)) (tw_one (ts_if (TrW.t (xw_and (xt_val (xe_callD d__law_is_short ⟨rfl, rfl, rfl, rfl, rfl⟩ hr (by decide) (by rfl) (TaW.run (xw_cons (xe_var 11 (pv 11)) xw_nil)) (he := star_of rfl) (hpl := plain_of rfl))) (xw_and1 (xt_neT (xe_reprX hM gd hr (by rfl) T.repr (TaW.run (xw_cons (xe_callD d__law_met ⟨rfl, rfl, rfl, rfl, rfl⟩ hr (by decide) (by rfl) (TaW.run (xw_cons (xe_var 4 (pv 4)) (xw_cons (xe_var 11 (pv 11)) xw_nil))) (he := star_of rfl) (hpl := plain_of rfl)) xw_nil))) (xe_reprX hM gd hr (by rfl) T.repr (TaW.run (xw_cons (xe_var 13 (pv 13)) xw_nil))))))) (TbW.run (tw_one (ts_ret xe_bl))) tb_nil))))))) (passes_of rfl) rfl) (tw_cons (ts_for (ti_listV (xe_lstV (xw_cons xe_non (xw_cons xe_int (xw_cons xe_bl (xv_cons (xe_lstV (xw_cons (xe_frz 6 (pv 6)) xw_nil)) (xv_cons (xe_tupV (xw_cons (xe_frz 6 (pv 6)) xw_nil)) (xw_cons (xe_frz 5 (pv 5)) (xw_cons xe_d0 (xw_cons (xe_pow xe_int xe_int) xw_nil)))))))))) (tg_name 14 sc_law.nd rfl (by first | exact .inl rfl | exact .inr rfl)) (TbW.run (tw_one (ts_if (xt_neZ hr (xe_callD d__law_met ⟨rfl, rfl, rfl, rfl, rfl⟩ hr (by decide) (by rfl) (TaW.run (xw_cons (xe_var 4 (pv 4)) (xw_cons (xe_var 14 (pv 14)) xw_nil))) (he := star_of rfl) (hpl := plain_of rfl)) (xe_lstW (xw_cons xe_str (xw_cons xe_int xw_nil)))) (TbW.run (tw_one (ts_ret xe_bl))) tb_nil))) (passes_of rfl) rfl) (tw_cons (ts_par (TaW.run (xw_cons (xe_at (fun _ _ => rfl) (xe_lstW (xw_cons (xe_list (by rfl) T.list rfl (TaW.run (xw_cons (xe_var 5 (pv 5)) xw_nil))) (xw_cons (xe_slice (xe_var 5 (pv 5)) (xo_some xe_int) xo_none) (xw_cons xe_non (xw_cons (xe_addV (xe_var 5 (pv 5)) (xe_tupV (xw_cons xe_str xw_nil))) xw_nil))))) (xe_callD d__law_draw ⟨rfl, rfl, rfl, rfl, rfl⟩ hr (by decide) (by rfl) (TaW.run (xw_cons (xe_var 2 (pv 2)) (xw_cons xe_int xw_nil))) (he := star_of rfl) (hpl := plain_of rfl))) (xw_cons xe_str xw_nil))) rfl sc_law.nd rfl rfl (by decide) rfl rfl rfl) (tw_cons (ts_tryAs 17 rfl rfl sc_law.nd rfl rfl (by rfl) mE_InvalidVersion tE_InvalidVersion (fun pn xe => (TbW.run (tw_one (ts_expr (xe_callD d_version_text ⟨rfl, rfl, rfl, rfl, rfl⟩ hr (by decide) (by rfl) (TaW.run (xw_cons (xe_var 4 (pv 4)) (xw_cons (xe_var 15 (pv 15)) xw_nil))) (he := star_of rfl) (hpl := plain_of rfl)))))) (fun a dd oe pn hz hf => (TbW.run (tw_one (ts_set 16 (xe_xf xf_InvalidVersion no_InvalidVersion_version hz hf (pv 17)) sc_law.nd rfl (by first | exact .inl rfl | exact .inr rfl)))))) (tw_one (ts_if (xt_neT (xe_reprX hM gd hr (by rfl) T.repr (TaW.run (xw_cons (xe_var 16 (pv 16)) xw_nil))) (xe_reprX hM gd hr (by rfl) T.repr (TaW.run (xw_cons (xe_var 15 (pv 15)) xw_nil)))) (TbW.run (tw_one (ts_ret xe_bl))) tb_nil))))))))))))))))) (passes_of rfl) rfl) (tw_one (ts_ret xe_bl))))
end K17
set_option Elab.async false
set_option linter.all false
set_option maxRecDepth 100000
set_option maxHeartbeats 4000000
namespace K17
open PySem PySem.Spec PyProof.Rows L2 Evl Kc Kz Kx Tr Mg K23 K22 K27 K24 KA KB KF KQ
abbrev s_is_name : Stmt := topS 21
theorem sc_is_name : FnScope ["thing", "letter"] ["thing"] (defScope s_is_name) := ⟨rfl, rfl, rfl, by decide +kernel, rfl, by decide +kernel, by decide +kernel⟩
theorem tr_is_name {P : Program} {w : World} {K : PySem.W.Frag} {mg : Str → Option Value} {base : Heap} {f : Addr} (T : Blt mg) (g_LETTERS : ∃ t, mg "LETTERS" = some (.str "abcdefghijklmnopqrstuvwxyz" t)) (g_MOST_LETTERS : ∃ t, mg "MOST_LETTERS" = some (.int (8) t)) :
    ∀ (cdv : Value) (A : Around) (outer : List Env) (s : Shared) (H : Hp) (E : XK), Room 0 (A.deeper (envOfC "is_name" (defScope s_is_name) s.heap.objs.size f cdv)) → TrB (cxOf (L2.CX P w) P w K mg base ["thing", "letter"] "is_name" (defScope s_is_name) f cdv A outer s H E) (defBody s_is_name) (fb_is_name) := by
  obtain ⟨t_LETTERS, h_LETTERS⟩ := g_LETTERS
  obtain ⟨t_MOST_LETTERS, h_MOST_LETTERS⟩ := g_MOST_LETTERS
  exact fun cdv A outer s H E hr => (TbW.run (tw_cons (ts_if (xt_not (xt_val (xe_isi (by rfl) T.isinstance (by decide +kernel) (pe_bltn (v := .ty "str") (by rfl) T.str (by decide +kernel) rfl) (xe_var 0 (pv 0))))) (TbW.run (tw_one (ts_ret xe_bl))) tb_nil) (tw_one (ts_ret (xe_and (xe_ch op_le op_le xe_int (xe_len (by rfl) T.len (TaW.run (xw_cons (xe_var 0 (pv 0)) xw_nil))) (xe_c (pe_glob (v := .int (8)) (by rfl) h_MOST_LETTERS ⟨_, rfl⟩) (fun _ => .int _))) (xe_one (xe_all (by rfl) T.all rfl (TaW.run (xw_cons (xe_lc (own := [("letter", 1)]) (ti_str (xe_frz 0 (pv 0))) rfl sc_is_name.nd (blkOk_by (N := ["thing", "letter"]) (sc := defScope s_is_name) (by decide +kernel)) (fun _ _ _ _ _ => (tg_name 1 sc_is_name.nd rfl (by first | exact .inl rfl | exact .inr rfl))) (fun _ _ _ _ _ => (xe_in hr (by with_unfolding_all rfl) (xe_var 1 (pv 1)) (xe_c (pe_glob (v := .str "abcdefghijklmnopqrstuvwxyz") (by rfl) h_LETTERS ⟨_, rfl⟩) (fun _ => .str _))))) xw_nil)))))))))
end K17
set_option Elab.async false
set_option linter.all false
set_option maxRecDepth 100000
set_option maxHeartbeats 4000000
namespace K17
open PySem PySem.Spec PyProof.Rows L2 Evl Kc Kz Kx Tr Mg K23 K22 K27 K24 KA KB KF KQ
abbrev s_is_whole_number : Stmt := topS 22
theorem sc_is_whole_number : FnScope ["thing"] ["thing"] (defScope s_is_whole_number) := ⟨rfl, rfl, rfl, by decide +kernel, rfl, by decide +kernel, by decide +kernel⟩
theorem tr_is_whole_number {P : Program} {w : World} {K : PySem.W.Frag} {mg : Str → Option Value} {base : Heap} {f : Addr} (T : Blt mg) :
    ∀ (cdv : Value) (A : Around) (outer : List Env) (s : Shared) (H : Hp) (E : XK), Room 0 (A.deeper (envOfC "is_whole_number" (defScope s_is_whole_number) s.heap.objs.size f cdv)) → TrB (cxOf (L2.CX P w) P w K mg base ["thing"] "is_whole_number" (defScope s_is_whole_number) f cdv A outer s H E) (defBody s_is_whole_number) (fb_is_whole_number) := by
  exact fun cdv A outer s H E hr => (TbW.run (tw_one (ts_ret (xe_and (xe_isi (by rfl) T.isinstance (by decide +kernel) (pe_bltn (v := .ty "int") (by rfl) T.int (by decide +kernel) rfl) (xe_var 0 (pv 0))) (xe_one (xe_not (xe_isi (by rfl) T.isinstance (by decide +kernel) (pe_bltn (v := .ty "bool") (by rfl) T.bool (by decide +kernel) rfl) (xe_var 0 (pv 0)))))))))
end K17
set_option Elab.async false
set_option linter.all false
set_option maxRecDepth 100000
set_option maxHeartbeats 4000000
namespace K17
open PySem PySem.Spec PyProof.Rows L2 Evl Kc Kz Kx Tr Mg K23 K22 K27 K24 KA KB KF KQ
abbrev s_is_field : Stmt := topS 23
theorem sc_is_field : FnScope ["thing", "name", "kind"] ["thing"] (defScope s_is_field) := ⟨rfl, rfl, rfl, by decide +kernel, rfl, by decide +kernel, by decide +kernel⟩
theorem tr_is_field {P : Program} {w : World} {K : PySem.W.Frag} {mg : Str → Option Value} {base : Heap} {f : Addr} (T : Blt mg) (g_KINDS : ∃ a, mg "KINDS" = some (.ref a) ∧ ∀ G, Rp K G (.ref a) (.tuple [.str "mine", .str "theirs", .str "counter"])) (d_is_name_W : DefO P w K mg base "is_name" ["thing"] 1 F_is_name) :
    ∀ (cdv : Value) (A : Around) (outer : List Env) (s : Shared) (H : Hp) (E : XK), Room 1 (A.deeper (envOfC "is_field" (defScope s_is_field) s.heap.objs.size f cdv)) → TrB (cxOf (L2.CX P w) P w K mg base ["thing", "name", "kind"] "is_field" (defScope s_is_field) f cdv A outer s H E) (defBody s_is_field) (fb_is_field) := by
  obtain ⟨a_KINDS, h_KINDS, r_KINDS⟩ := g_KINDS
  exact fun cdv A outer s H E hr => (TbW.run (tw_cons (ts_if (TrW.t (xw_or (xt_not (xt_val (xe_isi (by rfl) T.isinstance (by decide +kernel) (pe_bltn (v := .ty "tuple") (by rfl) T.tuple (by decide +kernel) rfl) (xe_var 0 (pv 0))))) (xw_or1 (xt_ne hr (xe_len (by rfl) T.len (TaW.run (xw_cons (xe_var 0 (pv 0)) xw_nil))) xe_int)))) (TbW.run (tw_one (ts_ret xe_bl))) tb_nil) (tw_cons (ts_asg (xe_frz 0 (pv 0)) (tg_tup (tgs_cons (tg_name 1 sc_is_field.nd rfl (by first | exact .inl rfl | exact .inr rfl)) (tgs_cons (tg_name 2 sc_is_field.nd rfl (by first | exact .inl rfl | exact .inr rfl)) tgs_nil)) rfl)) (tw_one (ts_ret (xe_and (xe_callD d_is_name_W ⟨rfl, rfl, rfl, rfl, rfl⟩ hr (by decide) (by rfl) (TaW.run (xw_cons (xe_var 1 (pv 1)) xw_nil)) (he := star_of rfl) (hpl := plain_of rfl)) (xe_and (xe_isi (by rfl) T.isinstance (by decide +kernel) (pe_bltn (v := .ty "str") (by rfl) T.str (by decide +kernel) rfl) (xe_var 2 (pv 2))) (xe_one (xe_in hr (by with_unfolding_all rfl) (xe_var 2 (pv 2)) (xe_c (pe_glob (v := .ref a_KINDS) (by rfl) h_KINDS rfl) r_KINDS))))))))))
end K17
set_option Elab.async false
set_option linter.all false
set_option maxRecDepth 100000
set_option maxHeartbeats 4000000
namespace K17
open PySem PySem.Spec PyProof.Rows L2 Evl Kc Kz Kx Tr Mg K23 K22 K27 K24 KA KB KF KQ
abbrev s_field_problem : Stmt := topS 24
theorem sc_field_problem : FnScope ["field", "earlier", "name", "kind", "alike", "most", "row"] ["field", "earlier"] (defScope s_field_problem) := ⟨rfl, rfl, rfl, by decide +kernel, rfl, by decide +kernel, by decide +kernel⟩
theorem tr_field_problem {P : Program} {w : World} {K : PySem.W.Frag} {mg : Str → Option Value} {base : Heap} {f : Addr} {C : Addr} (T : Blt mg) (dV : CvS K mg C) (g_COUNTER : ∃ t, mg "COUNTER" = some (.str "counter" t)) (d_is_field : DefO P w K mg base "is_field" ["thing"] 2 F_field) :
    ∀ (cdv : Value) (A : Around) (outer : List Env) (s : Shared) (H : Hp) (E : XK), Room 2 (A.deeper (envOfC "field_problem" (defScope s_field_problem) s.heap.objs.size f cdv)) → TrB (cxOf (L2.CX P w) P w K mg base ["field", "earlier", "name", "kind", "alike", "most", "row"] "field_problem" (defScope s_field_problem) f cdv A outer s H E) (defBody s_field_problem) (fb_field_problem C) := by
  obtain ⟨t_COUNTER, h_COUNTER⟩ := g_COUNTER
  obtain ⟨mc, u1, u2, cr, cv1, cv2⟩ := dV.cv
  exact fun cdv A outer s H E hr => (TbW.run (tw_cons (ts_if (xt_not (xt_val (xe_callD d_is_field ⟨rfl, rfl, rfl, rfl, rfl⟩ hr (by decide) (by rfl) (TaW.run (xw_cons (xe_var 0 (pv 0)) xw_nil)) (he := star_of rfl) (hpl := plain_of rfl)))) (TbW.run (tw_one (ts_ret xe_str))) tb_nil) (tw_cons (ts_asg (xe_frz 0 (pv 0)) (tg_tup (tgs_cons (tg_name 2 sc_field_problem.nd rfl (by first | exact .inl rfl | exact .inr rfl)) (tgs_cons (tg_name 3 sc_field_problem.nd rfl (by first | exact .inl rfl | exact .inr rfl)) tgs_nil)) rfl)) (tw_cons (ts_if (xt_in hr (by with_unfolding_all rfl) (xe_var 2 (pv 2)) (xe_lc (own := [("row", 6)]) (ti_list (xe_frz 1 (pv 1))) rfl sc_field_problem.nd (blkOk_by (N := ["field", "earlier", "name", "kind", "alike", "most", "row"]) (sc := defScope s_field_problem) (by decide +kernel)) (fun _ _ _ _ _ => (tg_name 6 sc_field_problem.nd rfl (by first | exact .inl rfl | exact .inr rfl))) (fun _ _ _ _ _ => (xe_at (fun _ _ => rfl) (xe_var 6 (pv 6)) xe_int)))) (TbW.run (tw_one (ts_ret xe_str))) tb_nil) (tw_cons (ts_lcif 4 (own := [("row", 6)]) (ti_list (xe_frz 1 (pv 1))) rfl sc_field_problem.nd rfl rfl (sw_true rfl rfl rfl (by decide +kernel)) (blkOk_by (N := ["field", "earlier", "name", "kind", "alike", "most", "row"]) (sc := defScope s_field_problem) (by decide +kernel)) (fun _ _ _ _ _ => (tg_name 6 sc_field_problem.nd rfl (by first | exact .inl rfl | exact .inr rfl))) (fun _ _ _ _ _ => (xt_eq hr (xe_eq hr (xe_at (fun _ _ => rfl) (xe_var 6 (pv 6)) xe_int) (xe_c (pe_glob (v := .str "counter") (by rfl) h_COUNTER ⟨_, rfl⟩) (fun _ => .str _))) (xe_eq hr (xe_var 3 (pv 3)) (xe_c (pe_glob (v := .str "counter") (by rfl) h_COUNTER ⟨_, rfl⟩) (fun _ => .str _))))) (fun _ _ _ _ _ => (xe_frz 6 (pv 6)))) (tw_cons (ts_set 5 (xe_if (xt_eq hr (xe_var 3 (pv 3)) (xe_c (pe_glob (v := .str "counter") (by rfl) h_COUNTER ⟨_, rfl⟩) (fun _ => .str _))) (xe_cint (by rfl) dV.mgC cr cv2) (xe_cint (by rfl) dV.mgC cr cv1)) sc_field_problem.nd rfl (by first | exact .inl rfl | exact .inr rfl)) (tw_one (ts_ret (xe_if (xt_eq hr (xe_len (by rfl) T.len (TaW.run (xw_cons (xe_var 4 (pv 4)) xw_nil))) (xe_var 5 (pv 5))) xe_str xe_non)))))))))
end K17
set_option Elab.async false
set_option linter.all false
set_option maxRecDepth 100000
set_option maxHeartbeats 4000000
namespace K17
open PySem PySem.Spec PyProof.Rows L2 Evl Kc Kz Kx Tr Mg K23 K22 K27 K24 KA KB KF KQ
abbrev s_is_value : Stmt := topS 26
theorem sc_is_value : FnScope ["kind", "thing"] ["kind", "thing"] (defScope s_is_value) := ⟨rfl, rfl, rfl, by decide +kernel, rfl, by decide +kernel, by decide +kernel⟩
theorem tr_is_value {P : Program} {w : World} {K : PySem.W.Frag} {mg : Str → Option Value} {base : Heap} {f : Addr} (T : Blt mg) (g_COUNTER : ∃ t, mg "COUNTER" = some (.str "counter" t)) (d_is_whole_number : DefO P w K mg base "is_whole_number" ["thing"] 1 F_wholeA) (d_is_name : DefO P w K mg base "is_name" ["thing"] 1 F_nameA) :
    ∀ (cdv : Value) (A : Around) (outer : List Env) (s : Shared) (H : Hp) (E : XK), Room 1 (A.deeper (envOfC "is_value" (defScope s_is_value) s.heap.objs.size f cdv)) → TrB (cxOf (L2.CX P w) P w K mg base ["kind", "thing"] "is_value" (defScope s_is_value) f cdv A outer s H E) (defBody s_is_value) (fb_is_value) := by
  obtain ⟨t_COUNTER, h_COUNTER⟩ := g_COUNTER
  exact fun cdv A outer s H E hr => (TbW.run (tw_one (ts_ret (xe_if (xt_eq hr (xe_var 0 (pv 0)) (xe_c (pe_glob (v := .str "counter") (by rfl) h_COUNTER ⟨_, rfl⟩) (fun _ => .str _))) (xe_callD d_is_whole_number ⟨rfl, rfl, rfl, rfl, rfl⟩ hr (by decide) (by rfl) (TaW.run (xw_cons (xe_var 1 (pv 1)) xw_nil)) (he := star_of rfl) (hpl := plain_of rfl)) (xe_callD d_is_name ⟨rfl, rfl, rfl, rfl, rfl⟩ hr (by decide) (by rfl) (TaW.run (xw_cons (xe_var 1 (pv 1)) xw_nil)) (he := star_of rfl) (hpl := plain_of rfl))))))
end K17
set_option Elab.async false
set_option linter.all false
set_option maxRecDepth 100000
set_option maxHeartbeats 4000000
namespace K17
open PySem PySem.Spec PyProof.Rows L2 Evl Kc Kz Kx Tr Mg K23 K22 K27 K24 KA KB KF KQ
abbrev s_is_version : Stmt := topS 27
theorem sc_is_version : FnScope ["schema", "thing", "name", "kind", "value"] ["schema", "thing"] (defScope s_is_version) := ⟨rfl, rfl, rfl, by decide +kernel, rfl, by decide +kernel, by decide +kernel⟩
theorem tr_is_version {P : Program} {w : World} {K : PySem.W.Frag} {mg : Str → Option Value} {base : Heap} {f : Addr} {C : Addr} (T : Blt mg) (dS : SchM P w K mg base C) (d_is_value : DefO P w K mg base "is_value" ["kind", "thing"] 2 F_valueA) :
    ∀ (cdv : Value) (A : Around) (outer : List Env) (s : Shared) (H : Hp) (E : XK), Room 2 (A.deeper (envOfC "is_version" (defScope s_is_version) s.heap.objs.size f cdv)) → TrB (cxOf (L2.CX P w) P w K mg base ["schema", "thing", "name", "kind", "value"] "is_version" (defScope s_is_version) f cdv A outer s H E) (defBody s_is_version) (fb_is_version C) := by
  exact fun cdv A outer s H E hr => (TbW.run (tw_cons (ts_if (TrW.t (xw_or (xt_not (xt_val (xe_isi (by rfl) T.isinstance (by decide +kernel) (pe_bltn (v := .ty "tuple") (by rfl) T.tuple (by decide +kernel) rfl) (xe_var 1 (pv 1))))) (xw_or1 (xt_ne hr (xe_len (by rfl) T.len (TaW.run (xw_cons (xe_var 1 (pv 1)) xw_nil))) (xe_lenS dS ⟨rfl, rfl, rfl, rfl, rfl⟩ hr (by decide) (by rfl) T.len (xe_var 0 (pv 0))))))) (TbW.run (tw_one (ts_ret xe_bl))) tb_nil) (tw_one (ts_ret (xe_all (by rfl) T.all rfl (TaW.run (xw_cons (xe_lc (own := [("name", 2), ("kind", 3), ("value", 4)]) (ti_zipM (by rfl) T.zip (TaW.run (xw_cons (xe_fldsS dS (flds_one C) ⟨rfl, rfl, rfl, rfl, rfl⟩ hr (by decide) (xe_var 0 (pv 0))) (xw_cons (xe_frz 1 (pv 1)) xw_nil)))) rfl sc_is_version.nd (blkOk_by (N := ["schema", "thing", "name", "kind", "value"]) (sc := defScope s_is_version) (by decide +kernel)) (fun _ _ _ _ _ => (tg_tup (tgs_cons (tg_tup (tgs_cons (tg_name 2 sc_is_version.nd rfl (by first | exact .inl rfl | exact .inr rfl)) (tgs_cons (tg_name 3 sc_is_version.nd rfl (by first | exact .inl rfl | exact .inr rfl)) tgs_nil)) rfl) (tgs_cons (tg_name 4 sc_is_version.nd rfl (by first | exact .inl rfl | exact .inr rfl)) tgs_nil)) rfl)) (fun _ _ _ _ _ => (xe_callD d_is_value ⟨rfl, rfl, rfl, rfl, rfl⟩ hr (by decide) (by rfl) (TaW.run (xw_cons (xe_var 3 (pv 3)) (xw_cons (xe_var 4 (pv 4)) xw_nil))) (he := star_of rfl) (hpl := plain_of rfl)))) xw_nil)))))))
end K17
set_option Elab.async false
set_option linter.all false
set_option maxRecDepth 100000
set_option maxHeartbeats 4000000
namespace K17
open PySem PySem.Spec PyProof.Rows L2 Evl Kc Kz Kx Tr Mg K23 K22 K27 K24 KA KB KF KQ
abbrev s_number_text : Stmt := topS 13
theorem sc_number_text : FnScope ["number", "digits", "rest", "last", "sign"] ["number"] (defScope s_number_text) := ⟨rfl, rfl, rfl, by decide +kernel, rfl, by decide +kernel, by decide +kernel⟩
theorem tr_number_text {P : Program} {w : World} {K : PySem.W.Frag} {mg : Str → Option Value} {base : Heap} {f : Addr} (T : Blt mg) (g_DIGITS : ∃ t, mg "DIGITS" = some (.str "0123456789" t)) :
    ∀ (cdv : Value) (A : Around) (outer : List Env) (s : Shared) (H : Hp) (E : XK), Room 0 (A.deeper (envOfC "number_text" (defScope s_number_text) s.heap.objs.size f cdv)) → TrB (cxOf (L2.CX P w) P w K mg base ["number", "digits", "rest", "last", "sign"] "number_text" (defScope s_number_text) f cdv A outer s H E) (defBody s_number_text) (fb_number_text) := by
  obtain ⟨t_DIGITS, h_DIGITS⟩ := g_DIGITS
  exact fun cdv A outer s H E hr => (TbW.run (tw_cons (ts_set 1 (xe_lstW xw_nil) sc_number_text.nd rfl (by first | exact .inl rfl | exact .inr rfl)) (tw_cons (ts_set 2 (xe_abs (by rfl) T.abs (TaW.run (xw_cons (xe_var 0 (pv 0)) xw_nil))) sc_number_text.nd rfl (by first | exact .inl rfl | exact .inr rfl)) (tw_cons (ts_while (xt_ge (xe_var 2 (pv 2)) xe_int) (TbW.run (tw_cons (ts_asg (xe_divmod (by rfl) T.divmod (TaW.run (xw_cons (xe_var 2 (pv 2)) (xw_cons xe_int xw_nil)))) (tg_tup (tgs_cons (tg_name 2 sc_number_text.nd rfl (by first | exact .inl rfl | exact .inr rfl)) (tgs_cons (tg_name 3 sc_number_text.nd rfl (by first | exact .inl rfl | exact .inr rfl)) tgs_nil)) rfl)) (tw_one (ts_expr (xe_append 1 (pv 1) (TaW.run (xw_cons (xe_at (fun _ _ => rfl) (xe_c (pe_glob (v := .str "0123456789") (by rfl) h_DIGITS ⟨_, rfl⟩) (fun _ => .str _)) (xe_var 3 (pv 3))) xw_nil))))))) (passes_of rfl)) (tw_cons (ts_expr (xe_append 1 (pv 1) (TaW.run (xw_cons (xe_at (fun _ _ => rfl) (xe_c (pe_glob (v := .str "0123456789") (by rfl) h_DIGITS ⟨_, rfl⟩) (fun _ => .str _)) (xe_var 2 (pv 2))) xw_nil)))) (tw_cons (ts_set 4 (xe_if (xt_lt (xe_var 0 (pv 0)) xe_int) xe_str xe_str) sc_number_text.nd rfl (by first | exact .inl rfl | exact .inr rfl)) (tw_one (ts_ret (xe_add (xe_var 4 (pv 4)) (xe_join xe_str (TaW.run (xw_cons (xe_rev (xe_var 1 (pv 1))) xw_nil))))))))))))
end K17
set_option Elab.async false
set_option linter.all false
set_option maxRecDepth 100000
set_option maxHeartbeats 4000000
namespace K17
open PySem PySem.Spec PyProof.Rows L2 Evl Kc Kz Kx Tr Mg K23 K22 K27 K24 KA KB KF KQ
abbrev s_is_number_text : Stmt := topS 14
theorem sc_is_number_text : FnScope ["text", "digits", "digit"] ["text"] (defScope s_is_number_text) := ⟨rfl, rfl, rfl, by decide +kernel, rfl, by decide +kernel, by decide +kernel⟩
theorem tr_is_number_text {P : Program} {w : World} {K : PySem.W.Frag} {mg : Str → Option Value} {base : Heap} {f : Addr} (T : Blt mg) (g_DIGITS : ∃ t, mg "DIGITS" = some (.str "0123456789" t)) :
    ∀ (cdv : Value) (A : Around) (outer : List Env) (s : Shared) (H : Hp) (E : XK), Room 0 (A.deeper (envOfC "is_number_text" (defScope s_is_number_text) s.heap.objs.size f cdv)) → TrB (cxOf (L2.CX P w) P w K mg base ["text", "digits", "digit"] "is_number_text" (defScope s_is_number_text) f cdv A outer s H E) (defBody s_is_number_text) (fb_is_number_text) := by
  obtain ⟨t_DIGITS, h_DIGITS⟩ := g_DIGITS
  exact fun cdv A outer s H E hr => (TbW.run (tw_cons (ts_set 1 (xe_cutPre (xe_var 0 (pv 0)) (TaW.run (xw_cons xe_str xw_nil))) sc_is_number_text.nd rfl (by first | exact .inl rfl | exact .inr rfl)) (tw_cons (ts_if (TrW.t (xw_or (xt_eq hr (xe_var 1 (pv 1)) xe_str) (xw_or1 (xt_not (xt_val (xe_all (by rfl) T.all rfl (TaW.run (xw_cons (xe_lc (own := [("digit", 2)]) (ti_str (xe_frz 1 (pv 1))) rfl sc_is_number_text.nd (blkOk_by (N := ["text", "digits", "digit"]) (sc := defScope s_is_number_text) (by decide +kernel)) (fun _ _ _ _ _ => (tg_name 2 sc_is_number_text.nd rfl (by first | exact .inl rfl | exact .inr rfl))) (fun _ _ _ _ _ => (xe_in hr (by with_unfolding_all rfl) (xe_var 2 (pv 2)) (xe_c (pe_glob (v := .str "0123456789") (by rfl) h_DIGITS ⟨_, rfl⟩) (fun _ => .str _))))) xw_nil)))))))) (TbW.run (tw_one (ts_ret xe_bl))) tb_nil) (tw_one (ts_ret (xe_or (xe_eq hr (xe_var 0 (pv 0)) xe_str) (xe_one (xe_not (xe_starts (xe_var 1 (pv 1)) (TaW.run (xw_cons xe_str xw_nil)))))))))))
end K17
set_option Elab.async false
set_option linter.all false
set_option maxRecDepth 100000
set_option maxHeartbeats 4000000
namespace K17
open PySem PySem.Spec PyProof.Rows L2 Evl Kc Kz Kx Tr Mg K23 K22 K27 K24 KA KB KF KQ
abbrev s_number_of : Stmt := topS 15
theorem sc_number_of : FnScope ["text", "number", "digit"] ["text"] (defScope s_number_of) := ⟨rfl, rfl, rfl, by decide +kernel, rfl, by decide +kernel, by decide +kernel⟩
theorem tr_number_of {P : Program} {w : World} {K : PySem.W.Frag} {mg : Str → Option Value} {base : Heap} {f : Addr} (T : Blt mg) (g_DIGITS : ∃ t, mg "DIGITS" = some (.str "0123456789" t)) :
    ∀ (cdv : Value) (A : Around) (outer : List Env) (s : Shared) (H : Hp) (E : XK), Room 0 (A.deeper (envOfC "number_of" (defScope s_number_of) s.heap.objs.size f cdv)) → TrB (cxOf (L2.CX P w) P w K mg base ["text", "number", "digit"] "number_of" (defScope s_number_of) f cdv A outer s H E) (defBody s_number_of) (fb_number_of) := by
  obtain ⟨t_DIGITS, h_DIGITS⟩ := g_DIGITS
  exact fun cdv A outer s H E hr => (TbW.run (tw_cons (ts_set 1 xe_int sc_number_of.nd rfl (by first | exact .inl rfl | exact .inr rfl)) (tw_cons (ts_for (ti_str (xe_cutPre (xe_var 0 (pv 0)) (TaW.run (xw_cons xe_str xw_nil)))) (tg_name 2 sc_number_of.nd rfl (by first | exact .inl rfl | exact .inr rfl)) (TbW.run (tw_one (ts_set 1 (xe_add (xe_mul (xe_var 1 (pv 1)) xe_int) (xe_spot (xe_c (pe_glob (v := .str "0123456789") (by rfl) h_DIGITS ⟨_, rfl⟩) (fun _ => .str _)) (TaW.run (xw_cons (xe_var 2 (pv 2)) xw_nil)))) sc_number_of.nd rfl (by first | exact .inl rfl | exact .inr rfl)))) (passes_of rfl) rfl) (tw_one (ts_ret (xe_if (xt_val (xe_starts (xe_var 0 (pv 0)) (TaW.run (xw_cons xe_str xw_nil)))) (xe_neg (xe_var 1 (pv 1)) un_neg) (xe_var 1 (pv 1))))))))
end K17
set_option Elab.async false
set_option linter.all false
set_option maxRecDepth 100000
set_option maxHeartbeats 4000000
namespace K17
open PySem PySem.Spec PyProof.Rows L2 Evl Kc Kz Kx Tr Mg K23 K22 K27 K24 KA KB KF KQ
abbrev s_value_text : Stmt := topS 29
theorem sc_value_text : FnScope ["value"] ["value"] (defScope s_value_text) := ⟨rfl, rfl, rfl, by decide +kernel, rfl, by decide +kernel, by decide +kernel⟩
theorem tr_value_text {P : Program} {w : World} {K : PySem.W.Frag} {mg : Str → Option Value} {base : Heap} {f : Addr} (T : Blt mg) (d_number_text : DefO P w K mg base "number_text" ["number"] 1 F_numT) :
    ∀ (cdv : Value) (A : Around) (outer : List Env) (s : Shared) (H : Hp) (E : XK), Room 1 (A.deeper (envOfC "value_text" (defScope s_value_text) s.heap.objs.size f cdv)) → TrB (cxOf (L2.CX P w) P w K mg base ["value"] "value_text" (defScope s_value_text) f cdv A outer s H E) (defBody s_value_text) (fb_value_text) := by
  exact fun cdv A outer s H E hr => (TbW.run (tw_one (ts_ret (xe_if (xt_val (xe_isi (by rfl) T.isinstance (by decide +kernel) (pe_bltn (v := .ty "str") (by rfl) T.str (by decide +kernel) rfl) (xe_var 0 (pv 0)))) (xe_var 0 (pv 0)) (xe_callD d_number_text ⟨rfl, rfl, rfl, rfl, rfl⟩ hr (by decide) (by rfl) (TaW.run (xw_cons (xe_var 0 (pv 0)) xw_nil)) (he := star_of rfl) (hpl := plain_of rfl))))))
end K17
set_option Elab.async false
set_option linter.all false
set_option maxRecDepth 100000
set_option maxHeartbeats 4000000
namespace K17
open PySem PySem.Spec PyProof.Rows L2 Evl Kc Kz Kx Tr Mg K23 K22 K27 K24 KA KB KF KQ
abbrev s_read_value : Stmt := topS 30
theorem sc_read_value : FnScope ["word"] ["word"] (defScope s_read_value) := ⟨rfl, rfl, rfl, by decide +kernel, rfl, by decide +kernel, by decide +kernel⟩
theorem tr_read_value {P : Program} {w : World} {K : PySem.W.Frag} {mg : Str → Option Value} {base : Heap} {f : Addr} (T : Blt mg) (d_is_number_text : DefO P w K mg base "is_number_text" ["text"] 1 F_isNum) (d_number_of : DefO P w K mg base "number_of" ["text"] 1 F_numOf) :
    ∀ (cdv : Value) (A : Around) (outer : List Env) (s : Shared) (H : Hp) (E : XK), Room 1 (A.deeper (envOfC "read_value" (defScope s_read_value) s.heap.objs.size f cdv)) → TrB (cxOf (L2.CX P w) P w K mg base ["word"] "read_value" (defScope s_read_value) f cdv A outer s H E) (defBody s_read_value) (fb_read_value) := by
  exact fun cdv A outer s H E hr => (TbW.run (tw_one (ts_ret (xe_if (xt_val (xe_callD d_is_number_text ⟨rfl, rfl, rfl, rfl, rfl⟩ hr (by decide) (by rfl) (TaW.run (xw_cons (xe_var 0 (pv 0)) xw_nil)) (he := star_of rfl) (hpl := plain_of rfl))) (xe_callD d_number_of ⟨rfl, rfl, rfl, rfl, rfl⟩ hr (by decide) (by rfl) (TaW.run (xw_cons (xe_var 0 (pv 0)) xw_nil)) (he := star_of rfl) (hpl := plain_of rfl)) (xe_var 0 (pv 0))))))
end K17
set_option Elab.async false
set_option linter.all false
set_option maxRecDepth 100000
set_option maxHeartbeats 4000000
namespace K17
open PySem PySem.Spec PyProof.Rows L2 Evl Kc Kz Kx Tr Mg K23 K22 K27 K24 KA KB KF KQ
abbrev s_version_text : Stmt := topS 31
theorem sc_version_text : FnScope ["schema", "version", "value"] ["schema", "version"] (defScope s_version_text) := ⟨rfl, rfl, rfl, by decide +kernel, rfl, by decide +kernel, by decide +kernel⟩
theorem tr_version_text {P : Program} {w : World} {K : PySem.W.Frag} {mg : Str → Option Value} {base : Heap} {f : Addr} {D_InvalidVersion : Addr} {C : Addr} (T : Blt mg) (d_is_version : DefO P w K mg base "is_version" ["schema", "thing"] 3 (F_versionA C)) (d_value_text : DefO P w K mg base "value_text" ["value"] 2 F_valT) (dE_InvalidVersion : ErT P w K mg base "InvalidVersion" D_InvalidVersion "version" "version" 8) :
    ∀ (cdv : Value) (A : Around) (outer : List Env) (s : Shared) (H : Hp) (E : XK), Room 9 (A.deeper (envOfC "version_text" (defScope s_version_text) s.heap.objs.size f cdv)) → TrB (cxOf (L2.CX P w) P w K mg base ["schema", "version", "value"] "version_text" (defScope s_version_text) f cdv A outer s H E) (defBody s_version_text) (fb_version_text C D_InvalidVersion) := by
  exact fun cdv A outer s H E hr => (TbW.run (tw_cons (ts_if (xt_not (xt_val (xe_callD d_is_version ⟨rfl, rfl, rfl, rfl, rfl⟩ hr (by decide) (by rfl) (TaW.run (xw_cons (xe_var 0 (pv 0)) (xw_cons (xe_var 1 (pv 1)) xw_nil))) (he := star_of rfl) (hpl := plain_of rfl)))) (TbW.run (tw_one (ts_raiseT dE_InvalidVersion ⟨rfl, rfl, rfl, rfl, rfl⟩ rfl hr (by decide) (by rfl) (TaW.run (xw_cons (xe_frz 1 (pv 1)) xw_nil))))) tb_nil) (tw_one (ts_ret (xe_join xe_str (TaW.run (xw_cons (xe_lc (own := [("value", 2)]) (ti_tup (xe_frz 1 (pv 1))) rfl sc_version_text.nd (blkOk_by (N := ["schema", "version", "value"]) (sc := defScope s_version_text) (by decide +kernel)) (fun _ _ _ _ _ => (tg_name 2 sc_version_text.nd rfl (by first | exact .inl rfl | exact .inr rfl))) (fun _ _ _ _ _ => (xe_callD d_value_text ⟨rfl, rfl, rfl, rfl, rfl⟩ hr (by decide) (by rfl) (TaW.run (xw_cons (xe_var 2 (pv 2)) xw_nil)) (he := star_of rfl) (hpl := plain_of rfl)))) xw_nil)))))))
end K17
set_option Elab.async false
set_option linter.all false
set_option maxRecDepth 100000
set_option maxHeartbeats 4000000
namespace K17
open PySem PySem.Spec PyProof.Rows L2 Evl Kc Kz Kx Tr Mg K23 K22 K27 K24 KA KB KF KQ
abbrev s_read_version : Stmt := topS 32
theorem sc_read_version : FnScope ["schema", "text", "version", "word"] ["schema", "text"] (defScope s_read_version) := ⟨rfl, rfl, rfl, by decide +kernel, rfl, by decide +kernel, by decide +kernel⟩
theorem tr_read_version {P : Program} {w : World} {K : PySem.W.Frag} {mg : Str → Option Value} {base : Heap} {f : Addr} {D_InvalidText : Addr} {C : Addr} (T : Blt mg) (d_read_value : DefO P w K mg base "read_value" ["word"] 2 F_readV) (d_is_version : DefO P w K mg base "is_version" ["schema", "thing"] 3 (F_versionA C)) (dE_InvalidText : Er1 P w K mg base "InvalidText" D_InvalidText "line" "line" 2) :
    ∀ (cdv : Value) (A : Around) (outer : List Env) (s : Shared) (H : Hp) (E : XK), Room 3 (A.deeper (envOfC "read_version" (defScope s_read_version) s.heap.objs.size f cdv)) → TrB (cxOf (L2.CX P w) P w K mg base ["schema", "text", "version", "word"] "read_version" (defScope s_read_version) f cdv A outer s H E) (defBody s_read_version) (fb_read_version C D_InvalidText) := by
  exact fun cdv A outer s H E hr => (TbW.run (tw_cons (ts_if (xt_not (xt_val (xe_isi (by rfl) T.isinstance (by decide +kernel) (pe_bltn (v := .ty "str") (by rfl) T.str (by decide +kernel) rfl) (xe_var 1 (pv 1))))) (TbW.run (tw_one (ts_raise1 dE_InvalidText ⟨rfl, rfl, rfl, rfl, rfl⟩ rfl hr (by decide) (by rfl) (TaW.run (xw_cons xe_int xw_nil))))) tb_nil) (tw_cons (ts_set 2 (xe_tuple (by rfl) T.tuple (TaW.run (xw_cons (xe_lc (own := [("word", 3)]) (ti_list (xe_split (xe_var 1 (pv 1)) (TaW.run (xw_cons xe_str xw_nil)))) rfl sc_read_version.nd (blkOk_by (N := ["schema", "text", "version", "word"]) (sc := defScope s_read_version) (by decide +kernel)) (fun _ _ _ _ _ => (tg_name 3 sc_read_version.nd rfl (by first | exact .inl rfl | exact .inr rfl))) (fun _ _ _ _ _ => (xe_callD d_read_value ⟨rfl, rfl, rfl, rfl, rfl⟩ hr (by decide) (by rfl) (TaW.run (xw_cons (xe_var 3 (pv 3)) xw_nil)) (he := star_of rfl) (hpl := plain_of rfl)))) xw_nil))) sc_read_version.nd rfl (by first | exact .inl rfl | exact .inr rfl)) (tw_cons (ts_if (xt_not (xt_val (xe_callD d_is_version ⟨rfl, rfl, rfl, rfl, rfl⟩ hr (by decide) (by rfl) (TaW.run (xw_cons (xe_var 0 (pv 0)) (xw_cons (xe_var 2 (pv 2)) xw_nil))) (he := star_of rfl) (hpl := plain_of rfl)))) (TbW.run (tw_one (ts_raise1 dE_InvalidText ⟨rfl, rfl, rfl, rfl, rfl⟩ rfl hr (by decide) (by rfl) (TaW.run (xw_cons xe_int xw_nil))))) tb_nil) (tw_one (ts_ret (xe_var 2 (pv 2))))))))
end K17
set_option Elab.async false
set_option linter.all false
set_option maxRecDepth 100000
set_option maxHeartbeats 4000000
namespace K17
open PySem PySem.Spec PyProof.Rows L2 Evl Kc Kz Kx Tr Mg K23 K22 K27 K24 KA KB KF KQ
abbrev s_init : Stmt := inClass (topS 25) 2
theorem sc_init : FnScope ["self", "fields", "rows", "index", "field", "problem", "name", "kind"] ["self", "fields"] (defScope s_init) := ⟨rfl, rfl, rfl, by decide +kernel, rfl, by decide +kernel, by decide +kernel⟩
theorem tr_init {P : Program} {w : World} {K : PySem.W.Frag} {mg : Str → Option Value} {base : Heap} {f : Addr} {C : Addr} (T : Blt mg) (dF : FlS K C) (d_field_problem : DefO P w K mg base "field_problem" ["field", "earlier"] 3 F_problem) :
    ∀ (p dx : Addr) (cdv : Value) (A : Around) (outer : List Env) (s : Shared) (H : Hp) (E : XK), Room 3 (A.deeper (envOfC "Schema.__init__" (defScope s_init) s.heap.objs.size f cdv)) → TrL (cxOf (L2.CX P w) P w K mg base ["self", "fields", "rows", "index", "field", "problem", "name", "kind"] "Schema.__init__" (defScope s_init) f cdv A outer s H E) p C dx "rows" (defBody s_init) (fb_init p) := by
  exact fun p dx cdv A outer s H E hr => (tl_cons (ts_if (TrW.t (xw_or (xt_not (xt_val (xe_isi2 (by rfl) T.isinstance (by decide +kernel) (by decide +kernel) (pe_bltn (v := .ty "list") (by rfl) T.list (by decide +kernel) rfl) (pe_bltn (v := .ty "tuple") (by rfl) T.tuple (by decide +kernel) rfl) (xe_var 1 (pv 1))))) (xw_or1 (xt_eq hr (xe_len (by rfl) T.len (TaW.run (xw_cons (xe_var 1 (pv 1)) xw_nil))) xe_int)))) (TbW.run (tw_one ts_no)) tb_nil) (tl_cons (ts_set 2 (xe_lstW xw_nil) sc_init.nd rfl (by first | exact .inl rfl | exact .inr rfl)) (tl_cons (ts_for (ti_enum (by rfl) T.enumerate (TaW.run (xw_cons (xe_frz 1 (pv 1)) xw_nil))) (tg_tup (tgs_cons (tg_name 3 sc_init.nd rfl (by first | exact .inl rfl | exact .inr rfl)) (tgs_cons (tg_name 4 sc_init.nd rfl (by first | exact .inl rfl | exact .inr rfl)) tgs_nil)) rfl) (TbW.run (tw_cons (ts_set 5 (xe_callD d_field_problem ⟨rfl, rfl, rfl, rfl, rfl⟩ hr (by decide) (by rfl) (TaW.run (xw_cons (xe_var 4 (pv 4)) (xw_cons (xe_var 2 (pv 2)) xw_nil))) (he := star_of rfl) (hpl := plain_of rfl)) sc_init.nd rfl (by first | exact .inl rfl | exact .inr rfl)) (tw_cons (ts_if (xt_isNot (xe_var 5 (pv 5)) xe_non) (TbW.run (tw_one ts_no)) tb_nil) (tw_cons (ts_asg (xe_frz 4 (pv 4)) (tg_tup (tgs_cons (tg_name 6 sc_init.nd rfl (by first | exact .inl rfl | exact .inr rfl)) (tgs_cons (tg_name 7 sc_init.nd rfl (by first | exact .inl rfl | exact .inr rfl)) tgs_nil)) rfl)) (tw_one (ts_expr (xe_append 2 (pv 2) (TaW.run (xv_cons (xe_tupV (xw_cons (xe_frz 6 (pv 6)) (xw_cons (xe_frz 7 (pv 7)) xw_nil))) xw_nil))))))))) (passes_of rfl) rfl) (tl_one dF.cl dF.nR (xe_tuple (by rfl) T.tuple (TaW.run (xw_cons (xe_var 2 (pv 2)) xw_nil))) (pv 0)))))
end K17
set_option Elab.async false
set_option linter.all false
set_option maxRecDepth 100000
set_option maxHeartbeats 4000000
namespace K17
open PySem PySem.Spec PyProof.Rows L2 Evl Kc Kz Kx Tr Mg K23 K22 K27 K24 KA KB KF KQ
abbrev s_slen : Stmt := inClass (topS 25) 4
theorem sc_slen : FnScope ["self"] ["self"] (defScope s_slen) := ⟨rfl, rfl, rfl, by decide +kernel, rfl, by decide +kernel, by decide +kernel⟩
theorem tr_slen {P : Program} {w : World} {K : PySem.W.Frag} {mg : Str → Option Value} {base : Heap} {f : Addr} {C : Addr} (T : Blt mg) (dF : FlS K C) :
    ∀ (cdv : Value) (A : Around) (outer : List Env) (s : Shared) (H : Hp) (E : XK), Room 0 (A.deeper (envOfC "Schema.__len__" (defScope s_slen) s.heap.objs.size f cdv)) → TrB (cxOf (L2.CX P w) P w K mg base ["self"] "Schema.__len__" (defScope s_slen) f cdv A outer s H E) (defBody s_slen) (fb_slen C) := by
  exact fun cdv A outer s H E hr => (TbW.run (tw_one (ts_ret (xe_len (by rfl) T.len (TaW.run (xw_cons (xe_fld dF.cl dF.nR (xe_var 0 (pv 0))) xw_nil))))))
end K17
set_option Elab.async false
set_option linter.all false
set_option maxRecDepth 100000
set_option maxHeartbeats 4000000
namespace K17
open PySem PySem.Spec PyProof.Rows L2 Evl Kc Kz Kx Tr Mg K23 K22 K27 K24 KA KB KF KQ
abbrev s_sflds : Stmt := inClass (topS 25) 8
theorem sc_sflds : FnScope ["self"] ["self"] (defScope s_sflds) := ⟨rfl, rfl, rfl, by decide +kernel, rfl, by decide +kernel, by decide +kernel⟩
theorem tr_sflds {P : Program} {w : World} {K : PySem.W.Frag} {mg : Str → Option Value} {base : Heap} {f : Addr} {C : Addr} (T : Blt mg) (dF : FlS K C) :
    ∀ (cdv : Value) (A : Around) (outer : List Env) (s : Shared) (H : Hp) (E : XK), Room 0 (A.deeper (envOfC "Schema.fields" (defScope s_sflds) s.heap.objs.size f cdv)) → TrB (cxOf (L2.CX P w) P w K mg base ["self"] "Schema.fields" (defScope s_sflds) f cdv A outer s H E) (defBody s_sflds) (fb_sflds C) := by
  exact fun cdv A outer s H E hr => (TbW.run (tw_one (ts_ret (xe_list (by rfl) T.list rfl (TaW.run (xw_cons (xe_fld dF.cl dF.nR (xe_var 0 (pv 0))) xw_nil))))))
end K17
set_option Elab.async false
set_option linter.all false
set_option maxRecDepth 100000
namespace K17x
open PySem PySem.Spec PyProof.Rows L2 Kx Kz Kc
def topS (i : Nat) : Stmt := PySem.Challenge.pw_mergereach_k17_whole_version_texts.main.body.getD i (.Pass ⟨0, 0, 0, 0⟩)
abbrev sPot : Stmt := topS 34
abbrev sDraw : Stmt := topS 35
theorem scPot : FnScope ["_law_script", "_law_k", "_law_digits"] ["_law_script", "_law_k"] (defScope sPot) := ⟨rfl, rfl, rfl, by decide +kernel, rfl, by decide +kernel, by decide +kernel⟩
theorem scDraw : FnScope ["_law_pot_here", "_law_many", "_law_digit"] ["_law_pot_here", "_law_many"] (defScope sDraw) := ⟨rfl, rfl, rfl, by decide +kernel, rfl, by decide +kernel, by decide +kernel⟩
structure Tx (mg : Str → Option Value) : Prop where
  len : mg "len" = none
  isi : mg "isinstance" = none
  str : mg "str" = none
  all : mg "all" = none
  mx : mg "max" = none
  mn : mg "min" = none
  abs : mg "abs" = none
  dm : mg "divmod" = none
  rng : mg "range" = none
  rpr : mg "repr" = none
  lst : mg "list" = none
  tup : mg "tuple" = none
  zip : mg "zip" = none
  int : mg "int" = none
  bool : mg "bool" = none
  dict : mg "dict" = none
  enum : mg "enumerate" = none
section
variable {K : PySem.W.Frag} {mg : Str → Option Value} {P : Program} {base : Heap} {w : World}
def spPot (K : PySem.W.Frag) : Sp := fun vs H Q _ => ∃ (a : Addr) (ns : List Int) (k : Nat), vs = [.ref a, .int k] ∧ SqL K H a (ns.map V.int) ∧ k < 100 ∧
  ∀ H' p, Same H H' → H p = none → Pot H' p → Q (.ref p) H'
theorem ok_pot {f : Addr} {fd : FuncData} {k : Nat} (F : Fun K "_law_pot" "_law_pot" sPot f fd) (T : Tx mg) :
    FnOk P w K mg base CX0 (k + 1) f fd ["_law_script", "_law_k"] (spPot K) := by
  refine F.ok scPot (fun vs H Q E h => ?_) (fun cdv A outer s H vs Q E hr h => ?_)
  · obtain ⟨a, ns, k, rfl, _⟩ := h
    rfl
  · obtain ⟨a, ns, k, rfl, hS, hk, q⟩ := h
    refine ⟨_, pss_cons (ps_set (i := 2) scPot.nd rfl (.inl rfl) (pe_ifExp (pt_cmpR op_lt (pv 1) (pe_callB call_len_seq (by rfl) T.len PySem.boot_len (pa_cons (pv 0) pa_nil)) (nomark _))
          (pe_ix ix_list (pv 0) (pv 1) (fun _ _ => rfl)) pe_int))
      (pss_one (ps_ret (pe_lst (pa_cons (pe_callB (call_max2 rfl) (by rfl) T.mx (by decide +kernel) (pa_cons pe_int (pa_cons (pe_op op_sub (pe_callB call_abs (by rfl) T.abs (by decide +kernel) (pa_cons (pv 2) pa_nil)) (pe_op op_pow pe_int pe_int)) pa_nil)))
        (pa_cons (pe_op op_mod (pe_op op_add (pe_op op_add (pe_op op_mul (pe_op op_mod (pe_callB call_abs (by rfl) T.abs (by decide +kernel) (pa_cons (pv 2) pa_nil)) pe_int) pe_int) (pe_op op_mul pe_int (pv 1))) pe_int) pe_int) pa_nil))))), ?_⟩
    refine ⟨.int k, rfl, .ref a, rfl, a, _, rfl, .inl hS, _, _, rfl, rfl, _, rfl, ?_⟩
    have tail : ∀ x y : Int, 0 ≤ x → 0 ≤ y → y < 2147483647 → ∀ p, H p = none → Q (.ref p) (upd H p (.lst [.int x, .int y])) :=
      fun x y h1 h2 h3 p np => q _ p (same_new np) np ⟨x, y, h1, h2, h3, upd_same⟩
    have fin : ∀ d : Int, 0 ≤ (if d < 0 then -d else d) := fun d => by split <;> omega
    have two : 2 ≤ sizeLine := by decide
    by_cases c : (k : Int) < ((ns.map V.int).length : Int)
    · have hk2 : k < ns.length := by
        rw [List.length_map] at c
        omega
      rw [decide_eq_true c]
      refine iteT ⟨.ref a, rfl, .int k, rfl, a, _, k, .int ns[k], rfl, rfl, hS, atI_nat (by rw [List.getElem?_map, List.getElem?_eq_getElem hk2]; rfl), ?_⟩
      generalize ns[k] = d
      refine ⟨.int d, rfl, d, rfl, 10, 18, rfl, rfl, ⟨by decide, by decide, by decide⟩, _, _, rfl, rfl, 0, _, rfl, .int d, rfl, d, rfl, _, _, rfl, rfl, (by show (0 : Int) < 2147483587; decide), _, _, rfl, rfl, .inr ⟨by decide, by decide⟩,
        .int k, rfl, _, _, rfl, rfl, .inl ⟨by decide, by decide⟩, _, _, rfl, rfl, _, _, rfl, rfl, _, _, rfl, rfl, (by show (0 : Int) < 2147483647; decide), two, tail _ _ ?_ ?_ ?_⟩
      · split <;> omega
      · exact Int.emod_nonneg _ (by decide)
      · exact Int.emod_lt_of_pos _ (by decide)
    · rw [decide_eq_false c]
      refine iteF ?_
      refine ⟨.int 0, rfl, 0, rfl, 10, 18, rfl, rfl, ⟨by decide, by decide, by decide⟩, _, _, rfl, rfl, 0, _, rfl, .int 0, rfl, 0, rfl, _, _, rfl, rfl, (by show (0 : Int) < 2147483587; decide), _, _, rfl, rfl, .inr ⟨by decide, by decide⟩,
        .int k, rfl, _, _, rfl, rfl, .inl ⟨by decide, by decide⟩, _, _, rfl, rfl, _, _, rfl, rfl, _, _, rfl, rfl, (by show (0 : Int) < 2147483647; decide), two, tail _ _ ?_ ?_ ?_⟩
      · split <;> omega
      · exact Int.emod_nonneg _ (by decide)
      · exact Int.emod_lt_of_pos _ (by decide)
def spDraw : Sp := fun vs H Q _ => ∃ (p : Addr) (m : Int), vs = [.ref p, .int m] ∧ Pot H p ∧ 0 < m ∧ m < 1073741824 ∧
  ∀ H' d, But p H H' → Pot H' p → 0 ≤ d → d < m → Q (.int d) H'
theorem ok_draw {f : Addr} {fd : FuncData} {k : Nat} (F : Fun K "_law_draw" "_law_draw" sDraw f fd) (T : Tx mg) :
    FnOk P w K mg base CX0 (k + 1) f fd ["_law_pot_here", "_law_many"] spDraw := by
  refine F.ok scDraw (fun vs H Q E h => ?_) (fun cdv A outer s H vs Q E hr h => ?_)
  · obtain ⟨p, m, rfl, _⟩ := h
    rfl
  · obtain ⟨p, m, rfl, ⟨x, y, hx, hy, hy2, hp⟩, m0, m1, q⟩ := h
    refine ⟨_, pss_cons (ps_if (pt_cmpR op_gt (pe_ix ix_list (pv 0) pe_int (fun _ _ => rfl)) pe_int (nomark _))
        (pss_cons (ps_asg (pe_callB call_divmod (by rfl) T.dm (by decide +kernel) (pa_cons (pe_ix ix_list (pv 0) pe_int (fun _ _ => rfl)) (pa_cons (pv 1) pa_nil)))
            (pg_tup rfl (pgs_cons (pg_sub (pv 0) pe_int set_list) (pgs_cons (pg_name (i := 2) scDraw.nd rfl (.inl rfl)) pgs_nil))))
          (pss_one (ps_ret (pv 2)))) pss_nil)
      (pss_cons (ps_asg (pe_op op_mod (pe_op op_add (pe_op op_mul (pe_ix ix_list (pv 0) pe_int (fun _ _ => rfl)) pe_int) pe_int) pe_int) (pg_sub (pv 0) pe_int set_list))
      (pss_one (ps_ret (pe_op op_mod (pe_op op_fdiv (pe_op op_mod (pe_op op_mul (pe_ix ix_list (pv 0) pe_int (fun _ _ => rfl)) (pe_ix ix_list (pv 0) pe_int (fun _ _ => rfl))) pe_int) pe_int) (pv 1))))), ?_⟩
    have sq : SqL K H p [.int x, .int y] := .inl (.inl hp)
    refine ⟨.ref p, rfl, p, _, 0, .int x, rfl, rfl, sq, atI_nat (j := 0) rfl, x, 0, rfl, rfl, _, rfl, ?_⟩
    by_cases c : x > 0
    · rw [decide_eq_true c]
      refine iteT ⟨.ref p, rfl, p, _, 0, .int x, rfl, rfl, sq, atI_nat (j := 0) rfl, .int m, rfl, x, m, rfl, ⟨m0, m1⟩, fun T nT => ?_⟩
      have npT : p ≠ T := ne_of_none hp nT
      have hp2 : (upd H T (.tup [.int (x / m), .int (x % m)])) p = some (.lst [.int x, .int y]) := by
        rw [upd_ne npT]
        exact hp
      refine ⟨T, [.int (x / m), .int (x % m)], rfl, .inl (.inl upd_same), rfl, .int (x / m), [.int (x % m)], rfl, .ref p, rfl, p, _, 0, 0, rfl, rfl, hp2, rfl, .int (x % m), [], rfl, rfl, .int (x % m), rfl, ?_⟩
      exact q _ _ (But.put (But.new But.refl nT)) ⟨x / m, y, Int.ediv_nonneg hx (Int.le_of_lt m0), hy, hy2, upd_same⟩ (Int.emod_nonneg _ (by omega)) (Int.emod_lt_of_pos _ m0)
    · rw [decide_eq_false c]
      refine iteF ?_
      have hy3 := Int.emod_nonneg (y * 39373 + 12227) (b := 2147483629) (by decide)
      have hy4 := Int.emod_lt_of_pos (y * 39373 + 12227) (b := 2147483629) (by decide)
      refine ⟨.ref p, rfl, p, _, 1, .int y, rfl, rfl, sq, atI_nat (j := 1) rfl, _, _, rfl, rfl, .inr ⟨by decide, by decide⟩, _, _, rfl, rfl, _, _, rfl, rfl, (by show (0 : Int) < 2147483629; decide),
        .ref p, rfl, p, _, 1, 1, rfl, rfl, hp, rfl, ?_⟩
      have sq2 : SqL K (upd H p (.lst ([.int x, .int y].set 1 (.int ((y * 39373 + 12227) % 2147483629))))) p [.int x, .int ((y * 39373 + 12227) % 2147483629)] := .inl (.inl upd_same)
      refine ⟨.ref p, rfl, p, _, 1, .int ((y * 39373 + 12227) % 2147483629), rfl, rfl, sq2, atI_nat (j := 1) rfl, .ref p, rfl, p, _, 1, .int ((y * 39373 + 12227) % 2147483629), rfl, rfl, sq2, atI_nat (j := 1) rfl, _, _, rfl, rfl, .inl ⟨by omega, by omega⟩, _, _, rfl, rfl, (by show (0 : Int) < 2147483563; decide),
        _, _, rfl, rfl, ⟨by decide, by decide⟩, .int m, rfl, _, _, rfl, rfl, m0, ?_⟩
      exact q _ _ (But.put But.refl) ⟨x, ((y * 39373 + 12227) % 2147483629), hx, hy3, by omega, upd_same⟩ (Int.emod_nonneg _ (by omega)) (Int.emod_lt_of_pos _ m0)
end
end K17x
set_option Elab.async false
set_option linter.all false
set_option maxRecDepth 100000
namespace K17
open PySem PySem.Spec PyProof.Rows L2 Evl Kc Kz Kx Tr Mg
abbrev sKept : Stmt := topS 3
theorem scKept : FnScope ["value", "levels", "item", "key"] ["value", "levels"] (defScope sKept) := ⟨rfl, rfl, rfl, by decide +kernel, rfl, by decide +kernel, by decide +kernel⟩
structure TkE (mg : Str → Option Value) : Prop where
  isi : mg "isinstance" = none
  lst : mg "list" = none
  tup : mg "tuple" = none
  dct : mg "dict" = none
  sup : mg "super" = none
theorem flat_kits {K : PySem.W.Frag} {H : Hp} {v : V} (t : FlatV v) : ∃ u, TyX K H v u ∧ PySem.W.kitOne K u (.type "list") = some false ∧ PySem.W.kitOne K u (.type "tuple") = some false ∧ PySem.W.kitOne K u (.type "dict") = some false := by
  cases t with
  | non => exact ⟨_, .base .non, kit_ty (show kitB "NoneType" "list" = some false by decide +kernel), kit_ty (show kitB "NoneType" "tuple" = some false by decide +kernel), kit_ty (show kitB "NoneType" "dict" = some false by decide +kernel)⟩
  | bl b => exact ⟨_, .base (.bl b), kit_ty (show kitB "bool" "list" = some false by decide +kernel), kit_ty (show kitB "bool" "tuple" = some false by decide +kernel), kit_ty (show kitB "bool" "dict" = some false by decide +kernel)⟩
  | int i => exact ⟨_, .base (.int i), kit_ty (show kitB "int" "list" = some false by decide +kernel), kit_ty (show kitB "int" "tuple" = some false by decide +kernel), kit_ty (show kitB "int" "dict" = some false by decide +kernel)⟩
  | str z => exact ⟨_, .base (.str z), kit_ty (show kitB "str" "list" = some false by decide +kernel), kit_ty (show kitB "str" "tuple" = some false by decide +kernel), kit_ty (show kitB "str" "dict" = some false by decide +kernel)⟩
section
variable {K : PySem.W.Frag} {mg : Str → Option Value} {P : Program} {base : Heap} {w : World}
theorem ok_kf {f : Addr} {fd : FuncData} {k : Nat} {CX : CXT} (F : FunD K "kept" "kept" (defArgs sKept) (defBody sKept) (defScope sKept) [.int 5] [] f fd) (T : TkE mg) : FnOk P w K mg base CX (k + 1) f fd ["value", "levels"] spKf := by
  refine F.ok scKept (fun vs H Q E h => ?_) (fun cdv A outer s H vs Q E hr h => ?_)
  · obtain ⟨v, n, rfl, _⟩ := h
    rfl
  · obtain ⟨v, n, rfl, fl, q⟩ := h
    refine ⟨_, pss_cons (ps_if (pt_cmpR op_eq (pv 1) pe_int (nomark _)) (pss_one (ps_ret (pv 0))) pss_nil)
      (pss_cons (ps_if (pt_val (pe_callB call_isi (by rfl) T.isi (by decide +kernel) (pa_cons (pv 0) (pa_cons (pe_bltn (v := .ty "list") (by rfl) T.lst (by decide +kernel) rfl) pa_nil)))) (pss_one ps_never) pss_nil)
      (pss_cons (ps_if (pt_val (pe_callB call_isi (by rfl) T.isi (by decide +kernel) (pa_cons (pv 0) (pa_cons (pe_bltn (v := .ty "tuple") (by rfl) T.tup (by decide +kernel) rfl) pa_nil)))) (pss_one ps_never) pss_nil)
      (pss_cons (ps_if (pt_val (pe_callB call_isi (by rfl) T.isi (by decide +kernel) (pa_cons (pv 0) (pa_cons (pe_bltn (v := .ty "dict") (by rfl) T.dct (by decide +kernel) rfl) pa_nil)))) (pss_one ps_never) pss_nil)
      (pss_one (ps_ret (pv 0)))))), ?_⟩
    obtain ⟨u, ty, k1, k2, k3⟩ := flat_kits (K := K) (H := H) fl
    refine ⟨.int n, rfl, rfl, _, rfl, ?_⟩
    by_cases c : V.int n = V.int 0
    · rw [decide_eq_true c]
      exact iteT ⟨v, rfl, q⟩
    · rw [decide_eq_false c]
      refine iteF ⟨v, rfl, v, .ty "list", u, .type "list", false, rfl, .ty "list", ty, k1, false, rfl, iteF ?_⟩
      refine ⟨v, rfl, v, .ty "tuple", u, .type "tuple", false, rfl, .ty "tuple", ty, k2, false, rfl, iteF ?_⟩
      refine ⟨v, rfl, v, .ty "dict", u, .type "dict", false, rfl, .ty "dict", ty, k3, false, rfl, iteF ?_⟩
      exact ⟨v, rfl, q⟩
theorem kept_bd {f : Addr} {fd : FuncData} (F : FunD K "kept" "kept" (defArgs sKept) (defBody sKept) (defScope sKept) [.int 5] [] f fd) : ∃ ds, Vals [.int 5] ds ∧ Binds K fd ["value", "levels"] ds :=
  F.binds1 1 0 (by simp) rfl fun T kV doc pm an cdv ct us its hu hi => match us, its, hu, hi with | [_], [_], _, _ => ⟨_, rfl, rfl⟩
theorem keptD {fkept tpK : Addr} {ocK kVK dcK pmK cdK ctK ocT : Value} {odK anK odT : Option Addr} {slK slT : Array (Option Value)} {nT : Nat} {tkT : Tok}
    (lkept : K.lookup fkept = some ⟨ocK, odK, .func (PySem.W.fnOf "kept" "kept" (defArgs sKept) (defBody sKept) (defScope sKept) (.ref tpK) kVK dcK pmK anK cdK ctK), slK⟩) (ckept : PySem.W.codeIn K cdK "kept" = true) (kkept : PySem.W.keepIn K (.ref fkept) = true) (tkept : K.lookup tpK = some ⟨ocT, odT, .seq #[.int 5 tkT] nT, slT⟩) :
    FunD K "kept" "kept" (defArgs sKept) (defBody sKept) (defScope sKept) [.int 5] [] fkept (PySem.W.fnOf "kept" "kept" (defArgs sKept) (defBody sKept) (defScope sKept) (.ref tpK) kVK dcK pmK anK cdK ctK) :=
  ⟨⟨_, _, _, _, _, _, _, _, _, _, rfl, lkept, ckept, .inr ⟨nofun, tpK, _, [.int 5 tkT], nT, rfl, tkept, rfl, .cons ⟨_, rfl⟩ .nil⟩, .inl rfl⟩, kkept⟩
theorem kept_bd2 {f : Addr} {fd : FuncData} (F : FunD K "kept" "kept" (defArgs sKept) (defBody sKept) (defScope sKept) [.int 5] [] f fd) : Binds K fd ["value", "levels"] [] := by
  obtain ⟨ds, v, b⟩ := F.binds1 (ps := ["value", "levels"]) 2 1 (by simp) rfl fun T kV doc pm an cdv ct us its hu hi => match us, its, hu, hi with | [_, _], [_], _, _ => ⟨_, rfl, rfl⟩
  cases v
  exact b
theorem tr_kept {f : Addr} (T : Blt mg) (dkf : KeptF P w K mg base 1) {F : FD} {lv : Nat} (h1 : 1 ≤ lv) (d_kept : DefO P w K mg base "kept" ["value", "levels"] lv F) :
    ∀ (cdv : Value) (A : Around) (outer : List Env) (s : Shared) (H : Hp) (E : XK), Room lv (A.deeper (envOfC "kept" (defScope sKept) s.heap.objs.size f cdv)) → TrB (cxOf (L2.CX P w) P w K mg base ["value", "levels", "item", "key"] "kept" (defScope sKept) f cdv A outer s H E) (defBody sKept) (fb_kept F) := by
  obtain ⟨fk, fdk, okf, mgk, kpk, bdk⟩ := dkf.ex
  exact fun cdv A outer s H E hr => (TbW.run (tw_cons (ts_if (xt_eq hr (xe_var 1 (pv 1)) xe_int) (TbW.run (tw_one (ts_ret (xe_var 0 (pv 0))))) tb_nil) (tw_cons (ts_if (xt_val (xe_isi (by rfl) T.isinstance (by decide +kernel) (pe_bltn (v := .ty "list") (by rfl) T.list (by decide +kernel) rfl) (xe_var 0 (pv 0)))) (TbW.run (tw_one (ts_ret (xe_lc (own := [("item", 2)]) (ti_seqA (xe_frz 0 (pv 0))) rfl scKept.nd (blkOk_by (N := ["value", "levels", "item", "key"]) (sc := defScope sKept) (by decide +kernel)) (fun _ _ _ _ _ => (tg_name 2 scKept.nd rfl (by first | exact .inl rfl | exact .inr rfl))) (fun _ _ _ _ _ => (xe_callD d_kept ⟨rfl, rfl, rfl, rfl, rfl⟩ hr (Nat.le_refl _) (by rfl) (TaW.run (xw_cons (xe_var 2 (pv 2)) (xw_cons (xe_sub (xe_var 1 (pv 1)) xe_int) xw_nil))) (he := star_of rfl) (hpl := plain_of rfl))))))) tb_nil) (tw_cons (ts_if (xt_val (xe_isi (by rfl) T.isinstance (by decide +kernel) (pe_bltn (v := .ty "tuple") (by rfl) T.tuple (by decide +kernel) rfl) (xe_var 0 (pv 0)))) (TbW.run (tw_one (ts_ret (xe_tuple (by rfl) T.tuple (TaW.run (xw_cons (xe_lc (own := [("item", 2)]) (ti_seqA (xe_frz 0 (pv 0))) rfl scKept.nd (blkOk_by (N := ["value", "levels", "item", "key"]) (sc := defScope sKept) (by decide +kernel)) (fun _ _ _ _ _ => (tg_name 2 scKept.nd rfl (by first | exact .inl rfl | exact .inr rfl))) (fun _ _ _ _ _ => (xe_callD d_kept ⟨rfl, rfl, rfl, rfl, rfl⟩ hr (Nat.le_refl _) (by rfl) (TaW.run (xw_cons (xe_var 2 (pv 2)) (xw_cons (xe_sub (xe_var 1 (pv 1)) xe_int) xw_nil))) (he := star_of rfl) (hpl := plain_of rfl)))) xw_nil)))))) tb_nil) (tw_cons (ts_if (xt_val (xe_isi (by rfl) T.isinstance (by decide +kernel) (pe_bltn (v := .ty "dict") (by rfl) T.dict (by decide +kernel) rfl) (xe_var 0 (pv 0)))) (TbW.run (tw_one (ts_ret (xe_keptD (pv 0) rfl scKept.nd (blkOk_by (N := ["value", "levels", "item", "key"]) (sc := defScope sKept) (by decide +kernel)) (fun _ _ _ _ _ => pg_name scKept.nd rfl (by first | exact .inl rfl | exact .inr rfl)) (fun _ _ _ _ _ => pv 3) (fun _ _ _ _ _ => pe_call okf (hr.mono h1) (by rfl) mgk kpk bdk .nil pass0 (pa_cons (pe_dget (Nat.lt_of_le_of_lt (Nat.add_le_add_left (show 1 ≤ 64 by decide) _) hr.units) (pv 0) (pv 3) (fun _ _ => rfl)) (pa_cons (pe_op op_sub (pv 1) pe_int) pa_nil))))))) tb_nil) (tw_one (ts_ret (xe_var 0 (pv 0)))))))))
theorem kept5 {fK : Addr} {fdK : FuncData} (FK : FunD K "kept" "kept" (defArgs sKept) (defBody sKept) (defScope sKept) [.int 5] [] fK fdK) (hm : mg "kept" = some (.ref fK)) (T : TkE mg) (TB : Blt mg) : FnOk P w K mg base CX0 7 fK fdK ["value", "levels"] (spKT K) := by
  have b2 := kept_bd2 FK
  have kf : KeptF P w K mg base 1 := ⟨⟨fK, fdK, ok_kf (k := 0) FK T, hm, FK.kp, b2⟩⟩
  exact calmO (kept_ok FK scKept hm b2 (fun F lv h1 dk => tr_kept TB kf h1 dk) 5)
abbrev sI_InvalidText : Stmt := inClass (topS 7) 0
theorem scI_InvalidText : NdefX.NScope ["self", "line", "__class__"] ["self", "line"] ["__class__"] (defScope sI_InvalidText) := NdefX.nscope_by (by decide +kernel)
theorem initW_InvalidText {D fi cda cc : Addr} {oi kv dc pm ct ol oe : Value} {di an dl de : Option Addr} {si sl se : Array (Option Value)} {vs : Array Value} {file : Str} {tf : Tok}
    (e9 : K.lookup fi = some ⟨oi, di, .func (PySem.W.ksFn "__init__" "InvalidText.__init__" (defArgs sI_InvalidText) (defBody sI_InvalidText) (defScope sI_InvalidText) .none kv dc pm an (.ref cda) ct cc), si⟩) (eA : PySem.W.codeIn K (.ref cda) "InvalidText.__init__" = true)
    (eB : K.lookup cda = some ⟨ol, dl, .fields vs, sl⟩) (eC : vs[2]? = some (.str file tf)) (eD : ((P.main.file : Str) == file) = true) (eE : K.lookup cc = some ⟨oe, de, .cell (some (.ref D)), se⟩) (eF : (P.main.scope.names.lookup ("super" : Str)).isSome = false)
    (eG : PySem.W.ks_superIn K D D "__init__" = some (some (.builtin "ValueError.__init__"))) (eH : PySem.W.mroIn K D (.ref D) = some true) (eI : PySem.W.subIn K (.ref D) (.type "ValueError") = some true) (eo : PySem.W.nsIn K cStatics "thirdparty.any" = some none) :
    InitW P K "InvalidText.__init__" (defArgs sI_InvalidText) (defBody sI_InvalidText) (defScope sI_InvalidText) fi D (PySem.W.ksFn "__init__" "InvalidText.__init__" (defArgs sI_InvalidText) (defBody sI_InvalidText) (defScope sI_InvalidText) .none kv dc pm an (.ref cda) ct cc) "ValueError" "ValueError.__init__" :=
  ⟨⟨_, _, _, _, _, _, _, _, _, _, rfl, e9, eA, ⟨⟨_, _, _, _, _, e9, rfl, rfl⟩, ⟨_, _, _, _, _, _, eB, eC, eD⟩, ⟨_, _, _, eE⟩, eF, rfl, rfl, rfl, rfl, eG, eH, eI, eo⟩⟩⟩
theorem er_InvalidText {fi fK D : Addr} {fd fdK : FuncData} (FK : FunD K "kept" "kept" (defArgs sKept) (defBody sKept) (defScope sKept) [.int 5] [] fK fdK) (hm : mg "kept" = some (.ref fK)) (T : TkE mg)
    (F : InitW P K "InvalidText.__init__" (defArgs sI_InvalidText) (defBody sI_InvalidText) (defScope sI_InvalidText) fi D fd "ValueError" "ValueError.__init__") (O : OexB K D "ValueError" "ValueError.__new__" "ValueError.__init__" (tailOf "ValueError")) (mE : mg "InvalidText" = some (.ref D)) (e7 : PySem.W.findIn K (.ref D) "__init__" = some (some (.ref fi))) (e8 : PySem.W.typeIn K (.ref fi) = some (.type "function")) (no : PySem.W.findIn K (.ref D) "line" = some none) :
    Er1 P w K mg base "InvalidText" D "line" "line" 2 := by
  obtain ⟨ds, rd, bd⟩ := kept_bd FK
  exact ⟨⟨_, _, _, _, O⟩, mE, fi, fd, e7, e8, ok_err1 F scI_InvalidText O T.sup no (ok_kf (k := 0) FK T) hm FK.kp bd rd kf_mono rfl (by decide) (by decide) rfl (fun env => ⟨_, rfl⟩), F.binds fun _ _ _ _ _ _ _ us hl => match us, hl with | [_, _], _ => rfl⟩
abbrev sI_InvalidVersion : Stmt := inClass (topS 6) 0
theorem scI_InvalidVersion : NdefX.NScope ["self", "version", "__class__"] ["self", "version"] ["__class__"] (defScope sI_InvalidVersion) := NdefX.nscope_by (by decide +kernel)
theorem initW_InvalidVersion {D fi cda cc : Addr} {oi kv dc pm ct ol oe : Value} {di an dl de : Option Addr} {si sl se : Array (Option Value)} {vs : Array Value} {file : Str} {tf : Tok}
    (e9 : K.lookup fi = some ⟨oi, di, .func (PySem.W.ksFn "__init__" "InvalidVersion.__init__" (defArgs sI_InvalidVersion) (defBody sI_InvalidVersion) (defScope sI_InvalidVersion) .none kv dc pm an (.ref cda) ct cc), si⟩) (eA : PySem.W.codeIn K (.ref cda) "InvalidVersion.__init__" = true)
    (eB : K.lookup cda = some ⟨ol, dl, .fields vs, sl⟩) (eC : vs[2]? = some (.str file tf)) (eD : ((P.main.file : Str) == file) = true) (eE : K.lookup cc = some ⟨oe, de, .cell (some (.ref D)), se⟩) (eF : (P.main.scope.names.lookup ("super" : Str)).isSome = false)
    (eG : PySem.W.ks_superIn K D D "__init__" = some (some (.builtin "ValueError.__init__"))) (eH : PySem.W.mroIn K D (.ref D) = some true) (eI : PySem.W.subIn K (.ref D) (.type "ValueError") = some true) (eo : PySem.W.nsIn K cStatics "thirdparty.any" = some none) :
    InitW P K "InvalidVersion.__init__" (defArgs sI_InvalidVersion) (defBody sI_InvalidVersion) (defScope sI_InvalidVersion) fi D (PySem.W.ksFn "__init__" "InvalidVersion.__init__" (defArgs sI_InvalidVersion) (defBody sI_InvalidVersion) (defScope sI_InvalidVersion) .none kv dc pm an (.ref cda) ct cc) "ValueError" "ValueError.__init__" :=
  ⟨⟨_, _, _, _, _, _, _, _, _, _, rfl, e9, eA, ⟨⟨_, _, _, _, _, e9, rfl, rfl⟩, ⟨_, _, _, _, _, _, eB, eC, eD⟩, ⟨_, _, _, eE⟩, eF, rfl, rfl, rfl, rfl, eG, eH, eI, eo⟩⟩⟩
theorem er_InvalidVersion {fi fK D : Addr} {fd fdK : FuncData} (FK : FunD K "kept" "kept" (defArgs sKept) (defBody sKept) (defScope sKept) [.int 5] [] fK fdK) (hm : mg "kept" = some (.ref fK)) (T : TkE mg) (TB : Blt mg)
    (F : InitW P K "InvalidVersion.__init__" (defArgs sI_InvalidVersion) (defBody sI_InvalidVersion) (defScope sI_InvalidVersion) fi D fd "ValueError" "ValueError.__init__") (O : OexB K D "ValueError" "ValueError.__new__" "ValueError.__init__" (tailOf "ValueError")) (mE : mg "InvalidVersion" = some (.ref D)) (e7 : PySem.W.findIn K (.ref D) "__init__" = some (some (.ref fi))) (e8 : PySem.W.typeIn K (.ref fi) = some (.type "function")) (no : PySem.W.findIn K (.ref D) "version" = some none) :
    ErT P w K mg base "InvalidVersion" D "version" "version" 8 := by
  obtain ⟨ds, rd, bd⟩ := kept_bd FK
  exact ⟨⟨_, _, _, _, O⟩, mE, fi, fd, e7, e8, ok_err1 F scI_InvalidVersion O T.sup no (kept5 FK hm T TB) hm FK.kp bd rd kt_mono rfl (by decide) (by decide) rfl (fun env => ⟨_, rfl⟩), F.binds fun _ _ _ _ _ _ _ us hl => match us, hl with | [_, _], _ => rfl⟩
end
end K17
set_option Elab.async false
set_option linter.all false
set_option maxRecDepth 100000
namespace KP
open PySem PySem.Spec PyProof.Rows L2 Evl Kc Kz Kx Tr Mg K23 K22 K27
/-- the digits of a number, the last one first -/
def revD (n : Nat) : List Nat := if h : n < 10 then [n] else n % 10 :: revD (n / 10)
def dsg (d : Nat) : Str := ⟨#[48 + d]⟩
def digs (n : Nat) : Str := ⟨((revD n).reverse.map (48 + ·)).toArray⟩
def numT (i : Int) : Str := if i < 0 then "-" ++ digs i.natAbs else digs i.natAbs
def valT : D → Str
  | .int i => numT i
  | .str z => z
  | _ => ""
def verT (ds : List D) : Str := Txt.join "," (ds.map valT)
def F_numT : FD := fun as k _ => ∃ i : Int, as = [.dat (.int i)] ∧ i.natAbs < 2 ^ 100 ∧ k (.dat (.str (numT i)))
def F_isNum : FD := fun as k _ => ∃ z : Str, as = [.dat (.str z)] ∧ ((∃ i : Int, i.natAbs < 2 ^ 100 ∧ z = numT i ∧ k tt') ∨ (word z ∧ k (.dat (.bool false))))
def F_numOf : FD := fun as k _ => ∃ i : Int, as = [.dat (.str (numT i))] ∧ i.natAbs < 2 ^ 100 ∧ k (.dat (.int i))
def F_valT : FD := fun as k _ => ∃ (d : D) (kd : Str), as = [.dat d] ∧ ValOk 100 kd d ∧ k (.dat (.str (valT d)))
def F_readV : FD := fun as k _ => ∃ (d : D) (kd : Str), as = [.dat (.str (valT d))] ∧ ValOk 100 kd d ∧ k (.dat d)
end KP
set_option Elab.async false
set_option linter.all false
set_option maxRecDepth 100000
set_option maxHeartbeats 4000000
namespace KP
open PySem PySem.Spec PyProof.Rows L2 Evl Kc Kz Kx Tr Mg K23 K22 K27
def fb_number_text : FS := (sCons (sSet 1 (fDisp .newl fNil)) (sCons (sSet 2 (fB (g1 gAbs) (fCons (fVar 0) fNil))) (sCons (sWhile (fTest (f2 gGe (fVar 2) (fC (.dat (.int (10)))))) (sCons (sAsg (fB (g2 gDivmod) (fCons (fVar 2) (fCons (fC (.dat (.int (10)))) fNil))) (gT 2 (gsCons (gN 2) (gsCons (gN 3) gsNil)))) (sExpr (fMut 1 mAppend (fCons (f2 gIx (fC (.dat (.str "0123456789"))) (fVar 3)) fNil))))) (sCons (sExpr (fMut 1 mAppend (fCons (f2 gIx (fC (.dat (.str "0123456789"))) (fVar 2)) fNil))) (sCons (sSet 4 (fIf (fTest (f2 gLt (fVar 0) (fC (.dat (.int (0)))))) (fC (.dat (.str "-"))) (fC (.dat (.str ""))))) (sRet (f2 gAdd (fVar 4) (fMeth gJoin (fC (.dat (.str ""))) (fCons (fRev (fVar 1)) fNil)))))))))
def fb_is_number_text : FS := (sCons (sSet 1 (fMeth gCutPre (fVar 0) (fCons (fC (.dat (.str "-"))) fNil))) (sCons (sIf (fOr (fTest (f2 gEq (fVar 1) (fC (.dat (.str ""))))) (fNot (fTest (fB (g1 gAll) (fCons (fLc [2] (iSeq sK (fFrz 1)) (gN 2) fYes (f2 (gIn false) (fVar 2) (fC (.dat (.str "0123456789"))))) fNil))))) (sRet (fC (.dat (.bool false)))) sNil) (sRet (fOrV (f2 gEq (fVar 0) (fC (.dat (.str "0")))) (fNotV (fMeth gStarts (fVar 1) (fCons (fC (.dat (.str "0"))) fNil)))))))
def fb_number_of : FS := (sCons (sSet 1 (fC (.dat (.int (0))))) (sCons (sFor (iSeq sK (fMeth gCutPre (fVar 0) (fCons (fC (.dat (.str "-"))) fNil))) (gN 2) (sSet 1 (f2 gAdd (f2 gMul (fVar 1) (fC (.dat (.int (10))))) (fMeth gSpot (fC (.dat (.str "0123456789"))) (fCons (fVar 2) fNil))))) (sRet (fIf (fTest (fMeth gStarts (fVar 0) (fCons (fC (.dat (.str "-"))) fNil))) (f1 gNeg (fVar 1)) (fVar 1)))))
def fb_value_text : FS := (sRet (fIf (fTest (f1 (fun d k => k (.val (.bool (isT "str" d)))) (fVar 0))) (fVar 0) (fCall 1 F_numT (fCons (fVar 0) fNil))))
def fb_read_value : FS := (sRet (fIf (fTest (fCall 1 F_isNum (fCons (fVar 0) fNil))) (fCall 1 F_numOf (fCons (fVar 0) fNil)) (fVar 0)))
def fb_version_text (C : Addr) : FS := (sCons (sIf (fNot (fTest (fCall 2 (F_version C) (fCons (fVar 0) (fCons (fVar 1) fNil))))) (fun _ _ _ => False) sNil) (sRet (fMeth gJoin (fC (.dat (.str ","))) (fCons (fLc [2] (iSeq tK (fFrz 1)) (gN 2) fYes (fCall 1 F_valT (fCons (fVar 2) fNil))) fNil))))
def fb_read_version (C : Addr) : FS := (sCons (sIf (fNot (fTest (f1 (fun d k => k (.val (.bool (isT "str" d)))) (fVar 1)))) (fun _ _ _ => False) sNil) (sCons (sSet 2 (fB (g1 gTuple) (fCons (fLc [3] (iSeq lK (fMeth gSplit (fVar 1) (fCons (fC (.dat (.str ","))) fNil))) (gN 3) fYes (fCall 1 F_readV (fCons (fVar 3) fNil))) fNil))) (sCons (sIf (fNot (fTest (fCall 2 (F_version C) (fCons (fVar 0) (fCons (fVar 2) fNil))))) (fun _ _ _ => False) sNil) (sRet (fVar 2)))))
end KP
set_option Elab.async false
set_option linter.all false
set_option maxRecDepth 100000
namespace KP
open PySem PySem.Spec PyProof.Rows L2 Evl Kc Kz Kx Tr Mg K23 K22 K27 TL
theorem revD_small {n : Nat} (h : n < 10) : revD n = [n] := by
  unfold revD
  exact dif_pos h
theorem revD_big {n : Nat} (h : ¬ n < 10) : revD n = n % 10 :: revD (n / 10) := by
  rw [revD.eq_def n]
  exact dif_neg h
theorem revD_ind {P : Nat → Prop} (small : ∀ n, n < 10 → P n) (big : ∀ n, ¬ n < 10 → P (n / 10) → P n) (n : Nat) : P n := by
  refine Nat.strongRecOn n fun m ih => ?_
  by_cases h : m < 10
  · exact small m h
  · exact big m h (ih (m / 10) (by omega))
theorem revD_lt (n : Nat) : ∀ d ∈ revD n, d < 10 := by
  refine revD_ind (P := fun n => ∀ d ∈ revD n, d < 10) (fun n h d hd => ?_) (fun n h ih d hd => ?_) n
  · rw [revD_small h] at hd
    rw [List.mem_singleton.mp hd]
    exact h
  · rw [revD_big h] at hd
    obtain rfl | hd := List.mem_cons.mp hd
    · omega
    · exact ih d hd
theorem revD_val (n : Nat) : (revD n).foldr (fun d acc => acc * 10 + d) 0 = n := by
  refine revD_ind (P := fun n => (revD n).foldr (fun d acc => acc * 10 + d) 0 = n) (fun n h => ?_) (fun n h ih => ?_) n
  · rw [revD_small h]
    show 0 * 10 + n = n
    omega
  · rw [revD_big h]
    show (revD (n / 10)).foldr _ 0 * 10 + n % 10 = n
    rw [ih]
    omega
theorem revD_len (m : Nat) : ∀ n, n < 10 ^ (m + 1) → (revD n).length ≤ m + 1 := by
  induction m with
  | zero =>
    intro n h
    rw [revD_small (by simpa using h)]
    exact Nat.le_refl 1
  | succ m ih =>
    intro n h
    by_cases l : n < 10
    · rw [revD_small l]
      show 1 ≤ _
      omega
    · rw [revD_big l]
      have : n / 10 < 10 ^ (m + 1) := by
        rw [Nat.pow_succ] at h
        omega
      exact Nat.succ_le_succ (ih _ this)
theorem revD_short {n : Nat} (h : n < 2 ^ 100) : (revD n).length ≤ 31 := revD_len 30 n (Nat.lt_trans h (by decide))
theorem revD_top (n : Nat) : ∃ d r, (revD n).reverse = d :: r ∧ d < 10 ∧ (0 < n → 0 < d) := by
  refine revD_ind (P := fun n => ∃ d r, (revD n).reverse = d :: r ∧ d < 10 ∧ (0 < n → 0 < d)) (fun n h => ?_) (fun n h ih => ?_) n
  · exact ⟨n, [], by rw [revD_small h]; rfl, h, id⟩
  · obtain ⟨d, r, e, l, p⟩ := ih
    exact ⟨d, r ++ [n % 10], by rw [revD_big h, List.reverse_cons, e]; rfl, l, fun _ => p (by omega)⟩
theorem tl_digs (n : Nat) : tl (digs n) = (revD n).reverse.map (48 + ·) := by
  show (List.toArray _).toList = _
  rw [List.toList_toArray]
theorem joinL_ones : ∀ l : List Nat, joinL [] ((l.map dsg).map tl) = l.map (48 + ·)
  | [] => rfl
  | [_] => rfl
  | a :: b :: l => by
    have ih := joinL_ones (b :: l)
    show [48 + a] ++ ([] ++ joinL [] (((b :: l).map dsg).map tl)) = _
    rw [ih]
    rfl
theorem join_dsg (l : List Nat) : Txt.join "" (l.map dsg) = ⟨(l.map (48 + ·)).toArray⟩ := by
  refine ext_tl ?_
  rw [join_eq, tl_join]
  show joinL [] _ = (List.toArray _).toList
  rw [joinL_ones, List.toList_toArray]
theorem starts_one {z : Str} {c s : Nat} {cs : List Nat} (h : tl z = c :: cs) : Txt.startswith z ⟨#[s]⟩ = decide (c = s) := by
  have l : z.length = cs.length + 1 := by rw [len_tl, h]; rfl
  unfold Txt.startswith
  rw [StrLaws.subAt_eq, show z.cps.toList = c :: cs from h]
  have e : decide (0 + (⟨#[s]⟩ : Str).length ≤ z.length) = true := decide_eq_true (by show 0 + 1 ≤ _; omega)
  rw [e, Bool.true_and]
  show (([c] : List Nat) == [s]) = _
  by_cases q : c = s
  · subst q
    simp
  · simp [q]
theorem cut_same {z : Str} {c s : Nat} {cs : List Nat} (h : tl z = c :: cs) (n : c ≠ s) : Txt.removeprefix z ⟨#[s]⟩ = z := by
  have e := starts_one (s := s) h
  rw [decide_eq_false n] at e
  rw [StrLaws.removeprefix_eq]
  unfold Txt.startswith at e
  rw [if_neg (by rw [e]; exact Bool.false_ne_true)]
theorem cut_off {z : Str} {s : Nat} {cs : List Nat} (h : tl z = s :: cs) : Txt.removeprefix z ⟨#[s]⟩ = ⟨cs.toArray⟩ := by
  have e := starts_one (s := s) h
  rw [decide_eq_true rfl] at e
  have l : z.length = cs.length + 1 := by rw [len_tl, h]; rfl
  rw [StrLaws.removeprefix_eq]
  unfold Txt.startswith at e
  rw [if_pos e, show z.cps.toList = s :: cs from h, l]
  show (⟨(cs.take (cs.length + 1 - 1)).toArray⟩ : Str) = _
  rw [Nat.add_sub_cancel, List.take_length]
end KP
set_option Elab.async false
set_option linter.all false
set_option maxRecDepth 100000
namespace KP
open PySem PySem.Spec PyProof.Rows L2 Evl Kc Kz Kx Tr Mg K23 K22 K27 TL
abbrev dgs : Str := "0123456789"
abbrev stN (i : Int) (ds : List Nat) (n : Nat) (c3 c4 : Option AV) : S := [some (.dat (.int i)), some (.own false (.list (sts (ds.map dsg)))), some (.dat (.int (n : Int))), c3, c4]
abbrev WT : FT := fTest (f2 gGe (fVar 2) (fC (.dat (.int 10))))
abbrev WB : FS := sCons (sAsg (fB (g2 gDivmod) (fCons (fVar 2) (fCons (fC (.dat (.int (10)))) fNil))) (gT 2 (gsCons (gN 2) (gsCons (gN 3) gsNil)))) (sExpr (fMut 1 mAppend (fCons (f2 gIx (fC (.dat (.str "0123456789"))) (fVar 3)) fNil)))
theorem dig_at {d : Nat} (h : d < 10) : dgs.cps.toList[d]? = some (48 + d) := by
  rcases (show d = 0 ∨ d = 1 ∨ d = 2 ∨ d = 3 ∨ d = 4 ∨ d = 5 ∨ d = 6 ∨ d = 7 ∨ d = 8 ∨ d = 9 by omega) with rfl | rfl | rfl | rfl | rfl | rfl | rfl | rfl | rfl | rfl <;> rfl
theorem wh_num {i : Int} {N : EndsT} {x : KX} {all : List Nat} (la : all.length ≤ 40) (fin : ∀ ds n c3, n < 10 → ds ++ [n] = all → Cl c3 → N.nx (stN i ds n c3 none)) :
    ∀ (fuel n : Nat) (ds : List Nat) (c3 : Option AV), Cl c3 → ds ++ revD n = all → (revD n).length ≤ fuel → whF WT WB fuel (stN i ds n c3 none) N x := by
  intro fuel
  induction fuel with
  | zero =>
    intro n ds c3 k3 ea l
    have : revD n = [] := List.length_eq_zero_iff.mp (by omega)
    obtain ⟨d, r, e, _⟩ := revD_top n
    rw [this] at e
    cases e
  | succ fuel ih =>
    intro n ds c3 k3 ea l
    have ld : ds.length ≤ 40 := by rw [← ea, List.length_append] at la; omega
    refine ifs (fun e => ?_) fun e => ?_
    · have ge : ¬ n < 10 := by have := of_decide_eq_true e; omega
      have lt : n % 10 < 10 := Nat.mod_lt _ (by decide)
      have e1 : (n : Int) / 10 = ((n / 10 : Nat) : Int) := by omega
      have e2 : (n : Int) % 10 = ((n % 10 : Nat) : Int) := by omega
      rw [revD_big ge] at ea l
      have go := ih (n / 10) (ds ++ [n % 10]) (some (.dat (.int ((n % 10 : Nat) : Int)))) .dat (by rw [← ea, List.append_assoc]; rfl) (Nat.le_of_succ_le_succ l)
      refine ⟨⟨by decide, by decide⟩, rfl, ?_⟩
      rw [e1, e2]
      refine pd rfl .dat (conK (pd rfl k3 (nilK ?_)))
      refine ⟨by decide, 48 + n % 10, atI_nat (dig_at lt), rfl, ?_, ?_⟩
      · rw [List.length_map, List.length_map]
        exact small1000 (by omega)
      · have e : sts (ds.map dsg) ++ [PyData.str ⟨#[48 + n % 10]⟩] = sts ((ds ++ [n % 10]).map dsg) := by rw [List.map_append, sts_app]; rfl
        show whF WT WB fuel [some (.dat (.int i)), some (.own false (.list (sts (ds.map dsg) ++ [PyData.str ⟨#[48 + n % 10]⟩]))), some (.dat (.int ((n / 10 : Nat) : Int))), some (.dat (.int ((n % 10 : Nat) : Int))), none] N x
        rw [e]
        exact go
    · have lt : n < 10 := by have := of_decide_eq_false e; omega
      rw [revD_small lt] at ea
      exact fin ds n c3 lt ea k3
theorem tl_app (a b : Str) : tl (a ++ b) = tl a ++ tl b := by
  show (a.cps ++ b.cps).toList = _
  rw [Array.toList_append]
theorem abs_run {i : Int} {C : FS} {N : EndsT} {x : KX} (h : C (stN i [] i.natAbs none none) N x) : sCons (sSet 2 (fB (g1 gAbs) (fCons (fVar 0) fNil))) C [some (.dat (.int i)), some (.own false (.list [])), none, none, none] N x := by
  have ab : (if i < 0 then -i else i) = ((i.natAbs : Nat) : Int) := by split <;> omega
  have h2 : C [some (.dat (.int i)), some (.own false (.list [])), some (.dat (.int ((i.natAbs : Nat) : Int))), none, none] N x := h
  rw [← ab] at h2
  exact h2
abbrev SignF : FE := (fIf (fTest (f2 gLt (fVar 0) (fC (.dat (.int (0)))))) (fC (.dat (.str "-"))) (fC (.dat (.str ""))))
abbrev RetF : FS := (sRet (f2 gAdd (fVar 4) (fMeth gJoin (fC (.dat (.str ""))) (fCons (fRev (fVar 1)) fNil))))
theorem ret_run {i : Int} {sg : Str} {k : AV → Prop} {x : KX} {n : Nat} {c3 : Option AV} (hi : i.natAbs < 2 ^ 100) (ls : sg.length ≤ 1) (hk : k (.dat (.str (sg ++ digs i.natAbs)))) : RetF (stN i (revD i.natAbs) n c3 (some (.dat (.str sg)))) (Ok k) x := by
  have la := revD_short hi
  have er : (sts ((revD i.natAbs).map dsg)).reverse = sts ((revD i.natAbs).reverse.map dsg) := by
    show (List.map _ _).reverse = List.map _ _
    rw [← List.map_reverse, List.map_reverse (f := dsg)]
  have one : ∀ y ∈ (revD i.natAbs).reverse.map dsg, y.length = 1 := fun y h => by obtain ⟨c, _, rfl⟩ := List.mem_map.mp h; rfl
  have big : 1000 ≤ sizeLine := by decide
  have ld : (digs i.natAbs).length ≤ 31 := by
    rw [len_tl, tl_digs, List.length_map, List.length_reverse]
    exact la
  refine ⟨⟨_, rfl⟩, ?_⟩
  show strsK (sts ((revD i.natAbs).map dsg)).reverse _
  rw [er]
  refine strs_of ⟨?_, ?_⟩
  · rw [sum_ones _ one, List.length_map, List.length_reverse]
    show _ + _ * 0 ≤ _
    omega
  · rw [join_dsg]
    exact ⟨by show sg.length + (digs i.natAbs).length ≤ _; omega, hk⟩
theorem tail_run {i : Int} {k : AV → Prop} {x : KX} {n : Nat} {c3 : Option AV} (hi : i.natAbs < 2 ^ 100) (hk : k (.dat (.str (numT i)))) : sCons (sSet 4 SignF) RetF (stN i (revD i.natAbs) n c3 none) (Ok k) x := by
  unfold numT at hk
  refine ifs (fun e => ?_) fun e => ?_
  · rw [if_pos (of_decide_eq_true e)] at hk
    refine pkd (ρ := stN i (revD i.natAbs) n c3 none) (i := 4) (c := none) (d := .str "-") (k := fun ρ' => RetF ρ' (Ok k) x) rfl .no ?_
    exact ret_run hi (Nat.le_refl 1) hk
  · rw [if_neg (of_decide_eq_false e)] at hk
    refine pkd (ρ := stN i (revD i.natAbs) n c3 none) (i := 4) (c := none) (d := .str "") (k := fun ρ' => RetF ρ' (Ok k) x) rfl .no ?_
    exact ret_run hi (Nat.zero_le 1) (by rw [show (("" : Str)) = Str.empty from rfl, empty_app]; exact hk)
theorem imp_numT : ∀ as k x, as.length = 1 → F_numT as k x → KP.fb_number_text (start0 5 as) (Ok k) fun c _ => x c := by
  rintro _ k x _ ⟨i, rfl, hi, hk⟩
  have la := revD_short hi
  show sCons (sSet 1 (fDisp .newl fNil)) _ _ _ _
  refine ⟨sz (by simp), pk (a := .own false (.list [])) (c := none) rfl .no rfl (fun _ => nofun) ?_⟩
  show sCons (sSet 2 (fB (g1 gAbs) (fCons (fVar 0) fNil))) (sCons (sWhile WT WB) _) [some (.dat (.int i)), some (.own false (.list [])), none, none, none] (Ok k) _
  refine abs_run (C := sCons (sWhile WT WB) _) ?_
  refine ⟨40, wh_num (all := revD i.natAbs) (by omega) (fun ds n c3 lt ea k3 => ?_) 40 i.natAbs [] none .no rfl (by omega)⟩
  have ld : ds.length ≤ 31 := by rw [← ea, List.length_append] at la; omega
  have e : sts (ds.map dsg) ++ [PyData.str ⟨#[48 + n]⟩] = sts ((ds ++ [n]).map dsg) := by rw [List.map_append, sts_app]; rfl
  have go := tail_run (k := k) (x := fun c _ => x c) (n := n) (c3 := c3) hi hk
  refine ⟨by decide, 48 + n, atI_nat (dig_at lt), rfl, ?_, ?_⟩
  · rw [List.length_map, List.length_map]
    exact small1000 (by omega)
  · rw [← ea] at go
    show sCons (sSet 4 SignF) RetF [some (.dat (.int i)), some (.own false (.list (sts (ds.map dsg) ++ [PyData.str ⟨#[48 + n]⟩]))), some (.dat (.int ((n : Nat) : Int))), c3, none] (Ok k) _
    rw [e]
    exact go
end KP
set_option Elab.async false
set_option linter.all false
set_option maxRecDepth 100000
namespace KP
open PySem PySem.Spec PyProof.Rows L2 Evl Kc Kz Kx Tr Mg K23 K22 K27 TL
theorem sh_low {z : Str} (h : ∀ c ∈ tl z, c < 128) : SeqAt.shaped (.str z) = true := by
  show (PyData.canLay0 _ && _) = true
  have e : PyData.canLay0 (.str z) = true := by
    simp only [PyData.canLay0, PyData.strOk]
    rw [Array.all_eq_true']
    intro c hc
    have := h c (Array.mem_def.mp hc)
    simp
    omega
  rw [e]
  rfl
theorem digs_top (n : Nat) : ∃ c cs, tl (digs n) = c :: cs ∧ 48 ≤ c ∧ c < 58 ∧ (0 < n → c ≠ 48) := by
  obtain ⟨d, r, e, l, p⟩ := revD_top n
  refine ⟨48 + d, r.map (48 + ·), by rw [tl_digs, e]; rfl, by omega, by omega, fun h => ?_⟩
  have := p h
  omega
theorem digs_mem (n : Nat) : ∀ c ∈ tl (digs n), 48 ≤ c ∧ c < 58 := fun c hc => by
  rw [tl_digs] at hc
  obtain ⟨d, hd, rfl⟩ := List.mem_map.mp hc
  have := revD_lt n d (List.mem_reverse.mp hd)
  omega
theorem digs_len {n : Nat} (h : n < 2 ^ 100) : (digs n).length ≤ 31 := by
  rw [len_tl, tl_digs, List.length_map, List.length_reverse]
  exact revD_short h
theorem tl_neg (n : Nat) : tl ("-" ++ digs n) = 45 :: tl (digs n) := tl_app _ _
theorem numT_cut (i : Int) : Txt.removeprefix (numT i) "-" = digs i.natAbs := by
  unfold numT
  by_cases h : i < 0
  · rw [if_pos h]
    exact (cut_off (s := 45) (tl_neg _)).trans (ext_tl (List.toList_toArray ..))
  · rw [if_neg h]
    obtain ⟨c, cs, e, l, _⟩ := digs_top i.natAbs
    exact cut_same (s := 45) e (by omega)
theorem numT_neg (i : Int) : Txt.startswith (numT i) "-" = decide (i < 0) := by
  unfold numT
  by_cases h : i < 0
  · rw [if_pos h, decide_eq_true h]
    exact (starts_one (s := 45) (tl_neg _)).trans (decide_eq_true rfl)
  · rw [if_neg h, decide_eq_false h]
    obtain ⟨c, cs, e, l, _⟩ := digs_top i.natAbs
    exact (starts_one (s := 45) e).trans (decide_eq_false (by omega))
theorem numT_len {i : Int} (h : i.natAbs < 2 ^ 100) : (numT i).length ≤ 32 := by
  have l := digs_len h
  unfold numT
  split
  · rw [app_len]
    show 1 + _ ≤ _
    omega
  · omega
theorem numT_mem (i : Int) : ∀ c ∈ tl (numT i), 45 ≤ c ∧ c < 58 := fun c hc => by
  unfold numT at hc
  split at hc
  · rw [tl_neg] at hc
    obtain rfl | hc := List.mem_cons.mp hc
    · omega
    · have := digs_mem _ c hc
      omega
  · have := digs_mem _ c hc
    omega
theorem numT_sh (i : Int) : SeqAt.shaped (.str (numT i)) = true := sh_low fun c hc => by have := numT_mem i c hc; omega
theorem digs_sh (n : Nat) : SeqAt.shaped (.str (digs n)) = true := sh_low fun c hc => by have := digs_mem n c hc; omega
theorem sh_e : SeqAt.shaped (.str "") = true := by decide +kernel
theorem sh_0 : SeqAt.shaped (.str "0") = true := by decide +kernel
abbrev AllF : FE := (fB (g1 gAll) (fCons (fLc [2] (iSeq sK (fFrz 1)) (gN 2) fYes (f2 (gIn false) (fVar 2) (fC (.dat (.str "0123456789"))))) fNil))
theorem all_run {z y : Str} {P : AV → S → Prop} {x : KX} (l : y.length ≤ 900) (h : P (.dat (.bool ((y.cps.toList.map fun c => decide (c ∈ dgs.cps.toList)).all id))) [some (.dat (.str z)), some (.dat (.str y)), none]) : AllF [some (.dat (.str z)), some (.dat (.str y)), none] P x := by
  refine ⟨rfl, ?_⟩
  refine lcF_by (fun i acc ρ => ρ = [some (.dat (.str z)), some (.dat (.str y)), none] ∧ acc = (((y.cps.toList.take i).map fun c => decide (c ∈ dgs.cps.toList)).map PyData.bool)) (fun i d acc ρ hd hI C' hC => ?_) (fun acc ρ hI => ?_) ⟨rfl, rfl⟩
  · obtain ⟨rfl, rfl⟩ := hI
    rw [List.getElem?_map] at hd
    obtain ⟨c, hc, rfl⟩ := Option.map_eq_some_iff.mp hd
    refine ⟨c, rfl, ?_⟩
    show (_ : Nat) < _ ∧ _
    refine ⟨?_, hC _ _ ⟨rfl, ?_⟩⟩
    · rw [List.length_map, List.length_map]
      refine small1000 (Nat.le_trans (List.length_take_le' _ _) ?_)
      have : y.cps.toList.length = y.length := rfl
      omega
    · rw [List.take_add_one, hc, List.map_append, List.map_append]
      show _ = _ ++ [PyData.bool (decide _)]
      simp only [Bool.false_xor]
  · obtain ⟨rfl, rfl⟩ := hI
    have full : (y.cps.toList.map fun c => (PyData.str ⟨#[c]⟩ : D)).length = y.cps.toList.length := List.length_map ..
    rw [full, List.take_length]
    exact bools_mk h
theorem dgs_mem {c : Nat} : c ∈ dgs.cps.toList ↔ 48 ≤ c ∧ c < 58 := by
  constructor
  · intro h
    have : ∀ c ∈ dgs.cps.toList, 48 ≤ c ∧ c < 58 := by decide +kernel
    exact this c h
  · intro h
    have e := dig_at (d := c - 48) (by omega)
    rw [show 48 + (c - 48) = c by omega] at e
    exact List.mem_of_getElem? e
theorem all_digs (n : Nat) : (((digs n).cps.toList.map fun c => decide (c ∈ dgs.cps.toList)).all id) = true := by
  rw [List.all_eq_true]
  intro b hb
  obtain ⟨c, hc, rfl⟩ := List.mem_map.mp hb
  exact decide_eq_true (dgs_mem.mpr (digs_mem n c hc))
theorem word_top {z : Str} (w : word z) : ∃ c cs, tl z = c :: cs ∧ 97 ≤ c ∧ c < 128 ∧ ∀ c ∈ tl z, 97 ≤ c ∧ c < 128 := by
  obtain ⟨h1, _, h3⟩ := word_parts w
  have low : ∀ c ∈ abc.cps.toList, 97 ≤ c ∧ c < 128 := by decide +kernel
  have all : ∀ c ∈ tl z, 97 ≤ c ∧ c < 128 := fun c hc => low c (h3 c hc)
  cases e : tl z with
  | nil => rw [len_tl, e] at h1; exact absurd h1 (by decide)
  | cons c cs =>
    rw [e] at all
    have := all c List.mem_cons_self
    exact ⟨c, cs, rfl, this.1, this.2, all⟩
theorem all_word {z : Str} (w : word z) : ((z.cps.toList.map fun c => decide (c ∈ dgs.cps.toList)).all id) = false := by
  obtain ⟨c, cs, e, l, _⟩ := word_top w
  rw [show z.cps.toList = c :: cs from e]
  have : decide (c ∈ dgs.cps.toList) = false := decide_eq_false fun h => by have := dgs_mem.mp h; omega
  show (id (decide (c ∈ dgs.cps.toList)) && _) = false
  rw [this]
  rfl
theorem ne_empty {z : Str} {c : Nat} {cs : List Nat} (e : tl z = c :: cs) : eqD (.str z) (.str "") = false := by
  rw [eqS]
  exact decide_eq_false fun h => by rw [h] at e; cases e
theorem starts_zero {n : Nat} (h : 0 < n) : Txt.startswith (digs n) "0" = false := by
  obtain ⟨c, cs, e, _, _, p⟩ := digs_top n
  exact (starts_one (s := 48) e).trans (decide_eq_false (p h))
abbrev IfI : FS := sIf (fOr (fTest (f2 gEq (fVar 1) (fC (.dat (.str ""))))) (fNot (fTest AllF))) (sRet (fC (.dat (.bool false)))) sNil
abbrev stI (z y : Str) : S := [some (.dat (.str z)), some (.dat (.str y)), none]
theorem if_run {z y : Str} {R : FS} {N : EndsT} {x : KX} {b : Bool} (sy : SeqAt.shaped (.str y) = true) (ey : eqD (.str y) (.str "") = false) (l : y.length ≤ 900) (ea : ((y.cps.toList.map fun c => decide (c ∈ dgs.cps.toList)).all id) = b) (h1 : b = true → R (stI z y) N x) (h2 : b = false → N.rt (.dat (.bool false)) (stI z y)) : sCons IfI R (stI z y) N x := by
  refine ⟨⟨sy, sh_e⟩, ?_⟩
  rw [ey]
  have go : fNot (fTest AllF) (stI z y) (fun c ρ => if c = true then sRet (fC (.dat (.bool false))) ρ { N with nx := fun ρ' => R ρ' N x } x else sNil ρ { N with nx := fun ρ' => R ρ' N x } x) x := by
    unfold fNot fTest
    refine all_run l ?_
    rw [ea]
    cases b with
    | true => exact h1 rfl
    | false => exact h2 rfl
  exact go
abbrev RetI : FS := (sRet (fOrV (f2 gEq (fVar 0) (fC (.dat (.str "0")))) (fNotV (fMeth gStarts (fVar 1) (fCons (fC (.dat (.str "0"))) fNil)))))
theorem imp_isNum : ∀ as k x, as.length = 1 → F_isNum as k x → KP.fb_is_number_text (start0 3 as) (Ok k) fun c _ => x c := by
  rintro _ k x _ ⟨z, rfl, ⟨i, hi, rfl, hk⟩ | ⟨w, hk⟩⟩
  · have lz := numT_len hi
    have big : 1000 ≤ sizeLine := by decide
    obtain ⟨c, cs, et, _⟩ := digs_top i.natAbs
    refine ⟨⟨_, rfl⟩, by omega, ?_⟩
    rw [numT_cut]
    refine pkd rfl .no ?_
    refine if_run (R := RetI) (z := numT i) (digs_sh _) (ne_empty et) (by have := digs_len hi; omega) (all_digs _) (fun _ => ?_) nofun
    refine ⟨⟨numT_sh i, sh_0⟩, ?_⟩
    by_cases q : i = 0
    · have e0 : eqD (.str (numT i)) (.str "0") = true := by rw [eqS, q]; exact decide_eq_true (by decide +kernel)
      rw [e0]
      exact hk
    · cases e0 : eqD (.str (numT i)) (.str "0") with
      | true => exact hk
      | false =>
        refine ⟨⟨_, rfl⟩, ?_⟩
        show k (.dat (.bool (!(Txt.startswith (digs i.natAbs) "0"))))
        rw [starts_zero (by omega)]
        exact hk
  · obtain ⟨c, cs, et, l, _, low⟩ := word_top w
    have big : 1000 ≤ sizeLine := by decide
    have lw := (word_parts w).2.1
    refine ⟨⟨_, rfl⟩, by omega, ?_⟩
    rw [show Txt.removeprefix z "-" = z from cut_same (s := 45) et (by omega)]
    refine pkd rfl .no ?_
    exact if_run (R := RetI) (z := z) (sh_str w) (ne_empty et) (by omega) (all_word w) nofun fun _ => hk
end KP
set_option Elab.async false
set_option linter.all false
set_option maxRecDepth 100000
namespace KP
open PySem PySem.Spec PyProof.Rows L2 Evl Kc Kz Kx Tr Mg K23 K22 K27 TL
theorem spot_at {d : Nat} (h : d < 10) : Txt.index0 dgs ⟨#[48 + d]⟩ = some d := by
  rcases (show d = 0 ∨ d = 1 ∨ d = 2 ∨ d = 3 ∨ d = 4 ∨ d = 5 ∨ d = 6 ∨ d = 7 ∨ d = 8 ∨ d = 9 by omega) with rfl | rfl | rfl | rfl | rfl | rfl | rfl | rfl | rfl | rfl <;> decide +kernel
def upto (l : List Nat) : Nat := l.foldl (fun acc d => acc * 10 + d) 0
theorem upto_all (n : Nat) : upto (revD n).reverse = n := by
  unfold upto
  rw [List.foldl_reverse]
  exact revD_val n
theorem upto_snoc (l : List Nat) (d : Nat) : upto (l ++ [d]) = upto l * 10 + d := by
  unfold upto
  rw [List.foldl_append]
  rfl
abbrev stO (z : Str) (n : Nat) (c2 : Option AV) : S := [some (.dat (.str z)), some (.dat (.int (n : Int))), c2]
abbrev RetO : FS := (sRet (fIf (fTest (fMeth gStarts (fVar 0) (fCons (fC (.dat (.str "-"))) fNil))) (f1 gNeg (fVar 1)) (fVar 1)))
theorem retO_run {i : Int} {k : AV → Prop} {x : KX} {c2 : Option AV} (h : k (.dat (.int i))) : RetO (stO (numT i) i.natAbs c2) (Ok k) x := by
  have pos : i < 0 → k (.dat (.int (-((i.natAbs : Nat) : Int)))) := fun q => by
    rw [show -((i.natAbs : Nat) : Int) = i by omega]
    exact h
  have neg : ¬ i < 0 → k (.dat (.int ((i.natAbs : Nat) : Int))) := fun q => by
    rw [show ((i.natAbs : Nat) : Int) = i by omega]
    exact h
  refine ⟨⟨_, rfl⟩, ifs (b := Txt.startswith (numT i) "-") (fun e => ?_) fun e => ?_⟩
  · rw [numT_neg] at e
    exact pos (of_decide_eq_true e)
  · rw [numT_neg] at e
    exact neg (of_decide_eq_false e)
theorem imp_numOf : ∀ as k x, as.length = 1 → F_numOf as k x → KP.fb_number_of (start0 3 as) (Ok k) fun c _ => x c := by
  rintro _ k x _ ⟨i, rfl, hi, hk⟩
  have lz := numT_len hi
  have big : 1000 ≤ sizeLine := by decide
  have ed : (digs i.natAbs).cps.toList = (revD i.natAbs).reverse.map (48 + ·) := tl_digs _
  refine ⟨⟨_, rfl⟩, by omega, ?_⟩
  rw [numT_cut]
  show forF (gN 2) _ ((digs i.natAbs).cps.toList.map fun c => PyData.str ⟨#[c]⟩) (stO (numT i) 0 none) _ _
  rw [ed]
  refine forF_by (fun m ρ => ∃ c2, Cl c2 ∧ ρ = stO (numT i) (upto ((revD i.natAbs).reverse.take m)) c2) (fun m d ρ hd hI C' hC => ?_) (fun ρ hI => ?_) ⟨none, .no, rfl⟩
  · obtain ⟨c2, k2, rfl⟩ := hI
    rw [List.getElem?_map, List.getElem?_map] at hd
    obtain ⟨c, hc, rfl⟩ := Option.map_eq_some_iff.mp hd
    obtain ⟨q, hq, rfl⟩ := Option.map_eq_some_iff.mp hc
    have q10 := revD_lt _ q (List.mem_reverse.mp (List.mem_of_getElem? hq))
    refine pd rfl k2 ?_
    refine ⟨.inl (.inr ⟨by decide, by decide⟩), ⟨_, rfl⟩, q, spot_at q10, ?_⟩
    refine pkd (k := fun ρ' => C' ρ') (ρ := stO (numT i) (upto ((revD i.natAbs).reverse.take m)) (some (.dat (.str ⟨#[48 + q]⟩)))) (i := 1) (d := .int (((upto ((revD i.natAbs).reverse.take m) : Nat) : Int) * 10 + (q : Nat))) rfl .dat ?_
    refine hC _ ⟨some (.dat (.str ⟨#[48 + q]⟩)), .dat, ?_⟩
    rw [take_succ hq, upto_snoc]
    show [_, some (AV.dat (PyData.int _)), _] = [_, some (AV.dat (PyData.int _)), _]
    rw [show (((upto ((revD i.natAbs).reverse.take m) * 10 + q : Nat)) : Int) = ((upto ((revD i.natAbs).reverse.take m) : Nat) : Int) * 10 + (q : Nat) by omega]
  · obtain ⟨c2, k2, rfl⟩ := hI
    rw [List.length_map, List.length_map, List.take_length, upto_all]
    exact retO_run hk
end KP
set_option Elab.async false
set_option linter.all false
set_option maxRecDepth 100000
namespace KQ
open PySem PySem.Spec PyProof.Rows L2 Evl Kc Kz Kx Tr Mg K23 K22 K27 K24 KA KB KF TL
open PySem.NumText (digitsVal AllDigits)
open KP (revD dsg digs tl_digs revD_top revD_lt revD_val tl_app starts_one cut_same cut_off sh_low digs_mem digs_top dgs_mem spot_at upto upto_all upto_snoc)
theorem val_app (l : List Nat) (d : Nat) : digitsVal (l ++ [48 + d]) = digitsVal l * 10 + d := by
  rw [NumText.digitsVal_snoc]
  omega
theorem upto_val (l : List Nat) : digitsVal (l.map (48 + ·)) = upto l := by
  have key : ∀ n (l : List Nat), l.length = n → digitsVal (l.map (48 + ·)) = upto l := by
    intro n
    induction n with
    | zero =>
      intro l h
      rw [List.length_eq_zero_iff.mp h]
      rfl
    | succ n ih =>
      intro l h
      have ne : l ≠ [] := fun e => by rw [e] at h; cases h
      have e := List.dropLast_concat_getLast ne
      have hl : l.dropLast.length = n := by rw [List.length_dropLast]; omega
      rw [← e, List.map_append, upto_snoc]
      show digitsVal (_ ++ [48 + _]) = _
      rw [val_app, ih _ hl]
  exact key _ l rfl
theorem digs_val (n : Nat) : digitsVal (tl (digs n)) = n := by
  rw [tl_digs, upto_val, upto_all]
theorem back {l : List Nat} (h : ∀ c ∈ l, c < 128) : (l.map Char.ofNat).map Char.toNat = l := by
  rw [List.map_map]
  have low : ∀ c : Nat, c < 128 → (Char.ofNat c).toNat = c := by decide +kernel
  exact (List.map_congr_left (g := id) fun c at_ => low c (h c at_)).trans (List.map_id l)
/-- what str writes of the number of some digits -/
theorem num_of {cs : List Nat} (h : AllDigits cs) : tl (numS ((digitsVal cs : Nat) : Int)) = match cs.dropWhile (· == 48) with
    | [] => [48]
    | c :: r => c :: r := by
  have e := W.KIN.signs_num (digitsVal cs)
  rw [NumText.toDigits_all cs h] at e
  show (Str.ofString (toString ((digitsVal cs : Nat) : Int))).cps.toList = _
  rw [e]
  have sub : ∀ c ∈ cs.dropWhile (· == 48), c < 128 := fun c hc => by
    have := h c (List.dropWhile_sublist _ |>.subset hc)
    omega
  cases q : cs.dropWhile (· == 48) with
  | nil => rfl
  | cons c r =>
    rw [q] at sub
    exact back sub
theorem digs_all (n : Nat) : AllDigits (tl (digs n)) := fun c hc => by have := digs_mem n c hc; omega
theorem num_digs (n : Nat) : numS (n : Int) = digs n := by
  refine ext_tl ?_
  have e := num_of (digs_all n)
  rw [digs_val] at e
  rw [e]
  obtain ⟨c, cs, et, l, u, p⟩ := digs_top n
  rw [et]
  by_cases z : c = 48
  · subst z
    have n0 : n = 0 := by
      by_cases h : 0 < n
      · exact absurd rfl (p h)
      · omega
    subst n0
    have : tl (digs 0) = [48] := by rw [tl_digs, KP.revD_small (by decide)]; rfl
    rw [this] at et
    cases et
    rfl
  · rw [List.dropWhile_cons, if_neg (by simpa using z)]
theorem tl_neg_num (m : Nat) : tl (numS (Int.negSucc m)) = 45 :: tl (digs (m + 1)) := by
  rw [← num_digs]
  show (Str.ofString (toString (Int.negSucc m))).cps.toList = 45 :: (Str.ofString (toString (((m + 1 : Nat)) : Int))).cps.toList
  rw [signs_ofString, signs_ofString]
  have e : (toString (Int.negSucc m)) = "-" ++ Nat.repr (m + 1) := rfl
  have e2 : (toString (((m + 1 : Nat)) : Int)) = Nat.repr (m + 1) := rfl
  rw [e, e2, String.toList_append, List.map_append]
  rfl
theorem numS_eq (i : Int) : numS i = KP.numT i := by
  unfold KP.numT
  by_cases h : i < 0
  · rw [if_pos h]
    obtain ⟨m, rfl⟩ : ∃ m, i = Int.negSucc m := Int.eq_negSucc_of_lt_zero h
    refine ext_tl ?_
    rw [tl_neg_num, KP.tl_neg]
    rfl
  · rw [if_neg h]
    have e : i = ((i.natAbs : Nat) : Int) := by omega
    rw [← num_digs, ← e]
end KQ
set_option Elab.async false
set_option linter.all false
set_option maxRecDepth 100000
namespace KQ
open PySem PySem.Spec PyProof.Rows L2 Evl Kc Kz Kx Tr Mg K23 K22 K27 K24 KA KB KF TL
open KP (revD dsg digs tl_digs revD_top revD_lt revD_val tl_app starts_one cut_same cut_off sh_low digs_mem digs_top dgs_mem spot_at upto upto_all upto_snoc revD_small revD_big revD_len dig_at dgs join_dsg)
theorem revD_long {n : Nat} (h : n < 2 ^ 300) : (revD n).length ≤ 91 := revD_len 90 n (Nat.lt_trans h (by decide))
abbrev stN (i : Int) (ds : List Nat) (n : Nat) (c3 c4 : Option AV) : S := [some (.dat (.int i)), some (.own false (.list (sts (ds.map dsg)))), some (.dat (.int (n : Int))), c3, c4]
abbrev WT : FT := fTest (f2 gGe (fVar 2) (fC (.dat (.int 10))))
abbrev WB : FS := sCons (sAsg (fB (g2 gDivmod) (fCons (fVar 2) (fCons (fC (.dat (.int (10)))) fNil))) (gT 2 (gsCons (gN 2) (gsCons (gN 3) gsNil)))) (sExpr (fMut 1 mAppend (fCons (f2 gIx (fC (.dat (.str "0123456789"))) (fVar 3)) fNil)))
theorem wh_num {i : Int} {N : EndsT} {x : KX} {all : List Nat} (la : all.length ≤ 100) (fin : ∀ ds n c3, n < 10 → ds ++ [n] = all → Cl c3 → N.nx (stN i ds n c3 none)) :
    ∀ (fuel n : Nat) (ds : List Nat) (c3 : Option AV), Cl c3 → ds ++ revD n = all → (revD n).length ≤ fuel → whF WT WB fuel (stN i ds n c3 none) N x := by
  intro fuel
  induction fuel with
  | zero =>
    intro n ds c3 k3 ea l
    have : revD n = [] := List.length_eq_zero_iff.mp (by omega)
    obtain ⟨d, r, e, _⟩ := revD_top n
    rw [this] at e
    cases e
  | succ fuel ih =>
    intro n ds c3 k3 ea l
    have ld : ds.length ≤ 100 := by rw [← ea, List.length_append] at la; omega
    refine ifs (fun e => ?_) fun e => ?_
    · have ge : ¬ n < 10 := by have := of_decide_eq_true e; omega
      have lt : n % 10 < 10 := Nat.mod_lt _ (by decide)
      have e1 : (n : Int) / 10 = ((n / 10 : Nat) : Int) := by omega
      have e2 : (n : Int) % 10 = ((n % 10 : Nat) : Int) := by omega
      rw [revD_big ge] at ea l
      have go := ih (n / 10) (ds ++ [n % 10]) (some (.dat (.int ((n % 10 : Nat) : Int)))) .dat (by rw [← ea, List.append_assoc]; rfl) (Nat.le_of_succ_le_succ l)
      refine ⟨⟨by decide, by decide⟩, rfl, ?_⟩
      rw [e1, e2]
      refine pd rfl .dat (conK (pd rfl k3 (nilK ?_)))
      refine ⟨by decide, 48 + n % 10, atI_nat (dig_at lt), rfl, ?_, ?_⟩
      · rw [List.length_map, List.length_map]
        exact small1000 (by omega)
      · have e : sts (ds.map dsg) ++ [PyData.str ⟨#[48 + n % 10]⟩] = sts ((ds ++ [n % 10]).map dsg) := by rw [List.map_append, sts_app]; rfl
        show whF WT WB fuel [some (.dat (.int i)), some (.own false (.list (sts (ds.map dsg) ++ [PyData.str ⟨#[48 + n % 10]⟩]))), some (.dat (.int ((n / 10 : Nat) : Int))), some (.dat (.int ((n % 10 : Nat) : Int))), none] N x
        rw [e]
        exact go
    · have lt : n < 10 := by have := of_decide_eq_false e; omega
      rw [revD_small lt] at ea
      exact fin ds n c3 lt ea k3
theorem abs_run {i : Int} {C : FS} {N : EndsT} {x : KX} (h : C (stN i [] i.natAbs none none) N x) : sCons (sSet 2 (fB (g1 gAbs) (fCons (fVar 0) fNil))) C [some (.dat (.int i)), some (.own false (.list [])), none, none, none] N x := by
  have ab : (if i < 0 then -i else i) = ((i.natAbs : Nat) : Int) := by split <;> omega
  have h2 : C [some (.dat (.int i)), some (.own false (.list [])), some (.dat (.int ((i.natAbs : Nat) : Int))), none, none] N x := h
  rw [← ab] at h2
  exact h2
abbrev SignF : FE := (fIf (fTest (f2 gLt (fVar 0) (fC (.dat (.int (0)))))) (fC (.dat (.str "-"))) (fC (.dat (.str ""))))
abbrev RetF : FS := (sRet (f2 gAdd (fVar 4) (fMeth gJoin (fC (.dat (.str ""))) (fCons (fRev (fVar 1)) fNil))))
theorem ret_run {i : Int} {sg : Str} {k : AV → Prop} {x : KX} {n : Nat} {c3 : Option AV} (hi : i.natAbs < 2 ^ 300) (ls : sg.length ≤ 1) (hk : k (.dat (.str (sg ++ digs i.natAbs)))) : RetF (stN i (revD i.natAbs) n c3 (some (.dat (.str sg)))) (Ok k) x := by
  have la := revD_long hi
  have er : (sts ((revD i.natAbs).map dsg)).reverse = sts ((revD i.natAbs).reverse.map dsg) := by
    show (List.map _ _).reverse = List.map _ _
    rw [← List.map_reverse, List.map_reverse (f := dsg)]
  have one : ∀ y ∈ (revD i.natAbs).reverse.map dsg, y.length = 1 := fun y h => by obtain ⟨c, _, rfl⟩ := List.mem_map.mp h; rfl
  have big : 1000 ≤ sizeLine := by decide
  have ld : (digs i.natAbs).length ≤ 91 := by
    rw [len_tl, tl_digs, List.length_map, List.length_reverse]
    exact la
  refine ⟨⟨_, rfl⟩, ?_⟩
  show strsK (sts ((revD i.natAbs).map dsg)).reverse _
  rw [er]
  refine strs_of ⟨?_, ?_⟩
  · rw [sum_ones _ one, List.length_map, List.length_reverse]
    show _ + _ * 0 ≤ _
    omega
  · rw [join_dsg]
    exact ⟨by show sg.length + (digs i.natAbs).length ≤ _; omega, hk⟩
theorem tail_run {i : Int} {k : AV → Prop} {x : KX} {n : Nat} {c3 : Option AV} (hi : i.natAbs < 2 ^ 300) (hk : k (.dat (.str (KP.numT i)))) : sCons (sSet 4 SignF) RetF (stN i (revD i.natAbs) n c3 none) (Ok k) x := by
  unfold KP.numT at hk
  refine ifs (fun e => ?_) fun e => ?_
  · rw [if_pos (of_decide_eq_true e)] at hk
    refine pkd (ρ := stN i (revD i.natAbs) n c3 none) (i := 4) (c := none) (d := .str "-") (k := fun ρ' => RetF ρ' (Ok k) x) rfl .no ?_
    exact ret_run hi (Nat.le_refl 1) hk
  · rw [if_neg (of_decide_eq_false e)] at hk
    refine pkd (ρ := stN i (revD i.natAbs) n c3 none) (i := 4) (c := none) (d := .str "") (k := fun ρ' => RetF ρ' (Ok k) x) rfl .no ?_
    exact ret_run hi (Nat.zero_le 1) (by rw [show (("" : Str)) = Str.empty from rfl, empty_app]; exact hk)
theorem imp_numT : ∀ as k x, as.length = 1 → F_numT as k x → KQ.fb_number_text (start0 5 as) (Ok k) fun c _ => x c := by
  rintro _ k x _ ⟨i, rfl, hi, hk⟩
  rw [numS_eq] at hk
  have la := revD_long hi
  show sCons (sSet 1 (fDisp .newl fNil)) _ _ _ _
  refine ⟨sz (by simp), pk (a := .own false (.list [])) (c := none) rfl .no rfl (fun _ => nofun) ?_⟩
  show sCons (sSet 2 (fB (g1 gAbs) (fCons (fVar 0) fNil))) (sCons (sWhile WT WB) _) [some (.dat (.int i)), some (.own false (.list [])), none, none, none] (Ok k) _
  refine abs_run (C := sCons (sWhile WT WB) _) ?_
  refine ⟨100, wh_num (all := revD i.natAbs) (by omega) (fun ds n c3 lt ea k3 => ?_) 100 i.natAbs [] none .no rfl (by omega)⟩
  have ld : ds.length ≤ 91 := by rw [← ea, List.length_append] at la; omega
  have e : sts (ds.map dsg) ++ [PyData.str ⟨#[48 + n]⟩] = sts ((ds ++ [n]).map dsg) := by rw [List.map_append, sts_app]; rfl
  have go := tail_run (k := k) (x := fun c _ => x c) (n := n) (c3 := c3) hi hk
  refine ⟨by decide, 48 + n, atI_nat (dig_at lt), rfl, ?_, ?_⟩
  · rw [List.length_map, List.length_map]
    exact small1000 (by omega)
  · rw [← ea] at go
    show sCons (sSet 4 SignF) RetF [some (.dat (.int i)), some (.own false (.list (sts (ds.map dsg) ++ [PyData.str ⟨#[48 + n]⟩]))), some (.dat (.int ((n : Nat) : Int))), c3, none] (Ok k) _
    rw [e]
    exact go
end KQ
set_option Elab.async false
set_option linter.all false
set_option maxRecDepth 100000
namespace KQ
open PySem PySem.Spec PyProof.Rows L2 Evl Kc Kz Kx Tr Mg K23 K22 K27 K24 KA KB KF TL
open PySem.NumText (digitsVal AllDigits)
open KP (revD dsg digs tl_digs revD_top revD_lt revD_val tl_app starts_one cut_same cut_off sh_low digs_mem digs_top dgs_mem spot_at upto upto_all upto_snoc IfI stI if_run AllF stO RetO)
theorem of_ne {c : Nat} {cs : List Nat} (h : c ≠ 45) : digitsOf (c :: cs) = c :: cs := by
  unfold digitsOf
  split
  · rename_i r e
    cases e
    exact absurd rfl h
  · rfl
theorem str_nil {z : Str} (h : tl z = []) : z = "" := ext_tl h
theorem cut_tl (z : Str) : tl (Txt.removeprefix z "-") = digitsOf (tl z) := by
  cases e : tl z with
  | nil =>
    rw [str_nil e]
    rfl
  | cons c cs =>
    by_cases h : c = 45
    · subst h
      rw [show Txt.removeprefix z "-" = ⟨cs.toArray⟩ from cut_off (s := 45) e]
      exact List.toList_toArray ..
    · rw [show Txt.removeprefix z "-" = z from cut_same (s := 45) e h, e, of_ne h]
theorem digits_sub {t : List Nat} {c : Nat} (h : c ∈ digitsOf t) : c ∈ t := by
  unfold digitsOf at h
  split at h
  · exact List.mem_cons_of_mem _ h
  · exact h
theorem digits_le (t : List Nat) : (digitsOf t).length ≤ t.length := by
  unfold digitsOf
  split
  · exact Nat.le_succ _
  · exact Nat.le_refl _
theorem cut_len {z : Str} (h : Tx z) : (Txt.removeprefix z "-").length ≤ 300 := by
  rw [len_tl, cut_tl]
  refine Nat.le_trans (digits_le _) ?_
  rw [← len_tl]
  exact h.l
theorem cut_low {z : Str} (h : Tx z) : ∀ c ∈ tl (Txt.removeprefix z "-"), c < 128 := fun c hc => by
  rw [cut_tl] at hc
  exact h.w c (digits_sub hc)
theorem dig_iff (c : Nat) : decide (c ∈ KP.dgs.cps.toList) = isDig c := by
  unfold isDig
  by_cases h : 48 ≤ c ∧ c < 58
  · rw [decide_eq_true h, decide_eq_true (dgs_mem.mpr h)]
  · rw [decide_eq_false h, decide_eq_false fun q => h (dgs_mem.mp q)]
theorem all_eq (y : Str) : ((y.cps.toList.map fun c => decide (c ∈ KP.dgs.cps.toList)).all id) = (tl y).all isDig := by
  rw [List.all_map]
  show (tl y).all _ = _
  congr 1
  funext c
  exact dig_iff c
theorem zero_eq (z : Str) : eqD (.str z) (.str "0") = decide (tl z = [48]) := by
  rw [eqS]
  by_cases h : z = "0"
  · rw [decide_eq_true h, h]
    rfl
  · rw [decide_eq_false h]
    exact (decide_eq_false fun q => h (ext_tl q)).symm
theorem imp_isNum : ∀ as k x, as.length = 1 → F_isNum as k x → KQ.fb_is_number_text (start0 3 as) (Ok k) fun c _ => x c := by
  rintro _ k x _ ⟨z, rfl, hz, hk⟩
  have big : 1000 ≤ sizeLine := by decide
  have l := hz.l
  have ct := cut_tl z
  have cl := cut_len hz
  have cw := cut_low hz
  have sz_ := sh_low hz.w
  have sy := sh_low cw
  unfold numB at hk
  rw [← ct] at hk
  refine ⟨⟨_, rfl⟩, by omega, ?_⟩
  generalize Txt.removeprefix z "-" = y at ct cl cw sy hk
  refine pkd rfl .no ?_
  cases e : tl y with
  | nil =>
    rw [e] at hk
    refine ⟨⟨sy, KP.sh_e⟩, ?_⟩
    rw [show eqD (.str y) (.str "") = true by rw [eqS]; exact decide_eq_true (str_nil e)]
    exact hk
  | cons c cs =>
    rw [e] at hk
    refine if_run (R := KP.RetI) (z := z) (b := (tl y).all isDig) sy (KP.ne_empty e) (by omega) (all_eq y) (fun ea => ?_) fun ea => ?_
    · rw [e] at ea
      rw [ea] at hk
      refine ⟨⟨sz_, KP.sh_0⟩, ?_⟩
      rw [zero_eq]
      cases q : decide (tl z = [48]) with
      | true =>
        rw [q] at hk
        exact hk
      | false =>
        rw [q] at hk
        refine ⟨⟨_, rfl⟩, ?_⟩
        show k (.dat (.bool (!(Txt.startswith y "0"))))
        rw [show Txt.startswith y "0" = decide (c = 48) from starts_one (s := 48) e]
        have e3 : decide ((c :: cs).head? = some 48) = decide (c = 48) := by
          by_cases h : c = 48
          · subst h; rfl
          · rw [decide_eq_false h]; exact decide_eq_false fun q => h (Option.some.inj q)
        rw [e3] at hk
        exact hk
    · rw [e] at ea
      rw [ea] at hk
      exact hk
theorem num_parts {z : Str} (h : numB z = true) : digitsOf (tl z) ≠ [] ∧ AllDigits (digitsOf (tl z)) ∧ (tl z = [48] ∨ (digitsOf (tl z)).head? ≠ some 48) := by
  unfold numB at h
  obtain ⟨h12, h3⟩ := Bool.and_eq_true_iff.mp h
  obtain ⟨h1, h2⟩ := Bool.and_eq_true_iff.mp h12
  refine ⟨fun e => ?_, fun c hc => ?_, ?_⟩
  · rw [e] at h1
    cases h1
  · have := of_decide_eq_true (List.all_eq_true.mp h2 c hc)
    omega
  · obtain h3 | h3 := Bool.or_eq_true_iff.mp h3
    · exact .inl (of_decide_eq_true h3)
    · refine .inr fun q => ?_
      rw [decide_eq_true q] at h3
      cases h3
theorem imp_numOf : ∀ as k x, as.length = 1 → F_numOf as k x → KQ.fb_number_of (start0 3 as) (Ok k) fun c _ => x c := by
  rintro _ k x _ ⟨z, rfl, hz, hn, hk⟩
  have big : 1000 ≤ sizeLine := by decide
  have l := hz.l
  obtain ⟨ne, all, _⟩ := num_parts hn
  refine ⟨⟨_, rfl⟩, by omega, ?_⟩
  have ct : (Txt.removeprefix z "-").cps.toList = digitsOf (tl z) := cut_tl z
  show forF (gN 2) _ ((Txt.removeprefix z "-").cps.toList.map fun c => PyData.str ⟨#[c]⟩) (stO z 0 none) _ _
  rw [ct]
  refine forF_by (fun m ρ => ∃ c2, Cl c2 ∧ ρ = stO z (digitsVal ((digitsOf (tl z)).take m)) c2) (fun m d ρ hd hI C' hC => ?_) (fun ρ hI => ?_) ⟨none, .no, rfl⟩
  · obtain ⟨c2, k2, rfl⟩ := hI
    rw [List.getElem?_map] at hd
    obtain ⟨c, hc, rfl⟩ := Option.map_eq_some_iff.mp hd
    have c10 := all c (List.mem_of_getElem? hc)
    obtain ⟨q, rfl⟩ : ∃ q, c = 48 + q := ⟨c - 48, by omega⟩
    refine pd rfl k2 ?_
    refine ⟨.inl (.inr ⟨by decide, by decide⟩), ⟨_, rfl⟩, q, spot_at (by omega), ?_⟩
    refine pkd (k := fun ρ' => C' ρ') (ρ := stO z (digitsVal ((digitsOf (tl z)).take m)) (some (.dat (.str ⟨#[48 + q]⟩)))) (i := 1) (d := .int (((digitsVal ((digitsOf (tl z)).take m) : Nat) : Int) * 10 + (q : Nat))) rfl .dat ?_
    refine hC _ ⟨some (.dat (.str ⟨#[48 + q]⟩)), .dat, ?_⟩
    rw [take_succ hc, val_app]
    show [_, some (AV.dat (PyData.int _)), _] = [_, some (AV.dat (PyData.int _)), _]
    rw [show (((digitsVal ((digitsOf (tl z)).take m) * 10 + q : Nat)) : Int) = ((digitsVal ((digitsOf (tl z)).take m) : Nat) : Int) * 10 + (q : Nat) by omega]
  · obtain ⟨c2, k2, rfl⟩ := hI
    rw [List.length_map, List.take_length]
    unfold numV at hk
    cases et : tl z with
    | nil => rw [et] at ne; exact absurd rfl ne
    | cons c cs =>
      have es : Txt.startswith z "-" = decide (c = 45) := starts_one (s := 45) et
      rw [et] at hk
      have pos : c = 45 → k (.dat (.int (-((digitsVal (digitsOf (c :: cs)) : Nat) : Int)))) := fun q => by
        rw [if_pos (show (c :: cs).head? = some 45 by rw [q]; rfl)] at hk
        exact hk
      have neg : ¬ c = 45 → k (.dat (.int ((digitsVal (digitsOf (c :: cs)) : Nat) : Int))) := fun q => by
        rw [if_neg (show ¬ (c :: cs).head? = some 45 from fun e => q (Option.some.inj e))] at hk
        exact hk
      refine ⟨⟨_, rfl⟩, ifs (b := Txt.startswith z "-") (fun e => ?_) fun e => ?_⟩
      · rw [es] at e
        exact pos (of_decide_eq_true e)
      · rw [es] at e
        exact neg (of_decide_eq_false e)
end KQ
set_option Elab.async false
set_option linter.all false
set_option maxRecDepth 100000
namespace KQ
open PySem PySem.Spec PyProof.Rows L2 Evl Kc Kz Kx Tr Mg K23 K22 K27 K24 KA KB KF TL
open PySem.NumText (digitsVal AllDigits digitsVal_pos digitsVal_zero)
open KP (revD dsg digs tl_digs revD_top revD_lt revD_val tl_app starts_one cut_same cut_off sh_low digs_mem digs_top dgs_mem spot_at upto upto_all upto_snoc)
theorem val_small : ∀ (n : Nat) (cs : List Nat), cs.length = n → AllDigits cs → digitsVal cs < 10 ^ n := by
  intro n
  induction n with
  | zero =>
    intro cs h _
    rw [List.length_eq_zero_iff.mp h]
    exact Nat.one_pos
  | succ n ih =>
    intro cs h all
    have ne : cs ≠ [] := fun e => by rw [e] at h; cases h
    have e := List.dropLast_concat_getLast ne
    have hl : cs.dropLast.length = n := by rw [List.length_dropLast]; omega
    have al : AllDigits cs.dropLast := fun c hc => all c (List.dropLast_subset _ hc)
    have hc := all _ (List.getLast_mem ne)
    have i := ih _ hl al
    rw [← e, NumText.digitsVal_snoc, Nat.pow_succ]
    omega
/-- the digits, zeros at the top struck -/
def topd (cs : List Nat) : List Nat := match cs.dropWhile (· == 48) with
  | [] => [48]
  | c :: r => c :: r
theorem topd_len (cs : List Nat) (ne : cs ≠ []) : (topd cs).length ≤ cs.length := by
  unfold topd
  have l := (List.dropWhile_sublist (· == 48) (l := cs)).length_le
  split
  · cases cs with
    | nil => exact absurd rfl ne
    | cons c r => show 1 ≤ _ + 1; omega
  · rename_i c r e
    rw [e] at l
    exact l
theorem topd_eq {cs : List Nat} (ne : cs ≠ []) : topd cs = cs ↔ (cs = [48] ∨ cs.head? ≠ some 48) := by
  cases cs with
  | nil => exact absurd rfl ne
  | cons c r =>
    by_cases h : c = 48
    · subst h
      have d : topd (48 :: r) = topd r := rfl
      rw [d]
      constructor
      · intro e
        cases r with
        | nil => exact .inl rfl
        | cons q r =>
          have l := topd_len (q :: r) (by simp)
          rw [e] at l
          exact absurd l (by show ¬ (_ + 1 ≤ _); simp)
      · rintro (e | e)
        · cases e
          rfl
        · exact absurd rfl e
    · have d : topd (c :: r) = c :: r := by
        unfold topd
        rw [List.dropWhile_cons, if_neg (by simpa using h)]
      rw [d]
      exact ⟨fun _ => .inr fun q => h (Option.some.inj q), fun _ => rfl⟩
theorem num_topd {cs : List Nat} (h : AllDigits cs) : tl (numS ((digitsVal cs : Nat) : Int)) = topd cs := num_of h
theorem val_zero_head {cs : List Nat} (all : AllDigits cs) (ne : cs ≠ []) (z : digitsVal cs = 0) : cs.head? = some 48 := by
  cases cs with
  | nil => exact absurd rfl ne
  | cons c r =>
    by_cases h : c = 48
    · rw [h]; rfl
    · have := all c List.mem_cons_self
      have := digitsVal_pos (c := c) (cs := r) (by omega)
      omega
/-- str(int(z)) is z exactly if z is written as numbers are -/
theorem canon {z : Str} (ne : digitsOf (tl z) ≠ []) (all : AllDigits (digitsOf (tl z))) : numS (numV z) = z ↔ (tl z = [48] ∨ (digitsOf (tl z)).head? ≠ some 48) := by
  unfold numV
  by_cases m : (tl z).head? = some 45
  · rw [if_pos m]
    obtain ⟨cs, et⟩ : ∃ cs, tl z = 45 :: cs := by
      cases e : tl z with
      | nil => rw [e] at m; cases m
      | cons c cs => rw [e] at m; cases m; exact ⟨cs, rfl⟩
    have ed : digitsOf (tl z) = cs := by rw [et]; rfl
    rw [ed] at ne all ⊢
    have n48 : tl z ≠ [48] := fun e => by rw [et] at e; cases e
    by_cases v0 : digitsVal cs = 0
    · rw [v0]
      constructor
      · intro e
        rw [← e] at et
        cases et
      · rintro (e | e)
        · exact absurd e n48
        · exact absurd (val_zero_head all ne v0) e
    · obtain ⟨q, hq⟩ : ∃ q, digitsVal cs = q + 1 := ⟨digitsVal cs - 1, by omega⟩
      have e1 : -((digitsVal cs : Nat) : Int) = Int.negSucc q := by rw [hq]; rfl
      have e2 : tl (numS (-((digitsVal cs : Nat) : Int))) = 45 :: topd cs := by
        rw [e1, tl_neg_num, ← num_topd all, hq, num_digs]
      constructor
      · intro e
        rw [e, et] at e2
        have := List.tail_eq_of_cons_eq e2
        rcases (topd_eq ne).mp this.symm with h | h
        · rw [h] at v0
          exact absurd rfl v0
        · exact .inr h
      · rintro (e | e)
        · exact absurd e n48
        · exact ext_tl (by rw [e2, (topd_eq ne).mpr (.inr e), et])
  · rw [if_neg m]
    have ed : digitsOf (tl z) = tl z := by
      cases e : tl z with
      | nil => rfl
      | cons c cs => exact of_ne fun q => m (by rw [e, q]; rfl)
    rw [ed] at ne all ⊢
    have e2 := num_topd all
    constructor
    · intro e
      rw [e] at e2
      exact (topd_eq ne).mp e2.symm
    · intro h
      exact ext_tl (by rw [e2, (topd_eq ne).mpr h])
theorem int_of {z : Str} (hz : Tx z) (ne : digitsOf (tl z) ≠ []) (all : AllDigits (digitsOf (tl z))) : PySem.intText? z = some (numV z) := by
  have l : z.length ≤ 4300 := Nat.le_trans hz.l (by decide)
  unfold numV
  by_cases m : (tl z).head? = some 45
  · rw [if_pos m]
    obtain ⟨cs, et⟩ : ∃ cs, tl z = 45 :: cs := by
      cases e : tl z with
      | nil => rw [e] at m; cases m
      | cons c cs => rw [e] at m; cases m; exact ⟨cs, rfl⟩
    have ed : digitsOf (tl z) = cs := by rw [et]; rfl
    rw [ed] at ne all ⊢
    exact intText_neg et all ne l
  · rw [if_neg m]
    have ed : digitsOf (tl z) = tl z := by
      cases e : tl z with
      | nil => rfl
      | cons c cs => exact of_ne fun q => m (by rw [e, q]; rfl)
    rw [ed] at ne all ⊢
    exact intText_digits all ne l
theorem numV_small {z : Str} (hz : Tx z) (all : AllDigits (digitsOf (tl z))) : (numV z).natAbs < 10 ^ 300 := by
  have h := val_small _ _ rfl all
  have l : (digitsOf (tl z)).length ≤ 300 := Nat.le_trans (digits_le _) (by rw [← len_tl]; exact hz.l)
  have := Nat.lt_of_lt_of_le h (Nat.pow_le_pow_right (by decide) l)
  unfold numV
  split <;> omega
end KQ
set_option Elab.async false
set_option linter.all false
set_option maxRecDepth 100000
namespace KQ
open PySem PySem.Spec PyProof.Rows L2 Evl Kc Kz Kx Tr Mg K23 K22 K27 K24 KA KB KF TL
open PySem.NumText (digitsVal AllDigits digitsVal_pos digitsVal_zero)
open KP (sh_low)
theorem tl_to (z : Str) (n : Nat) : tl (cutS z none (some (n : Int))) = (tl z).take n := by
  show (List.toArray _).toList = _
  rw [List.toList_toArray, HT.sIx_none, HT.sIx_nat, List.drop_zero, Nat.sub_zero]
  have l : (tl z).length = z.length := (len_tl z).symm
  have l2 : z.cps.toList.length = z.length := l
  by_cases h : n ≤ z.length
  · rw [Nat.min_eq_left h]
  · rw [Nat.min_eq_right (by omega), List.take_of_length_le (by omega), List.take_of_length_le (l := tl z) (by omega)]
theorem tl_from (z : Str) (n : Nat) : tl (cutS z (some (n : Int)) none) = (tl z).drop n := by
  show (List.toArray _).toList = _
  rw [List.toList_toArray, HT.sIx_none, HT.sIx_nat]
  have l : (tl z).length = z.length := (len_tl z).symm
  by_cases h : n ≤ z.length
  · rw [Nat.min_eq_left h]
    exact List.take_of_length_le (by rw [List.length_drop, l]; exact Nat.le_refl _)
  · rw [Nat.min_eq_right (by omega), Nat.sub_self, List.take_zero, List.drop_eq_nil_of_le (by omega)]
theorem minus_eq (z : Str) : eqD (.str (cutS z none (some (1 : Nat)))) (.str "-") = decide ((tl z).head? = some 45) := by
  rw [eqS]
  have e := tl_to z 1
  by_cases h : (tl z).head? = some 45
  · rw [decide_eq_true h]
    refine decide_eq_true (ext_tl ?_)
    rw [e]
    cases q : tl z with
    | nil => rw [q] at h; cases h
    | cons c cs => rw [q] at h; cases h; rfl
  · rw [decide_eq_false h]
    refine decide_eq_false fun q => h ?_
    rw [q] at e
    cases q2 : tl z with
    | nil => rw [q2] at e; cases e
    | cons c cs =>
      rw [q2] at e
      have : [45] = [c] := e
      cases this
      rfl
abbrev F1 : FE := (fIf (fTest (f2 gEq (fSl (fVar 0) oNone (oSome (fC (.dat (.int (1)))))) (fC (.dat (.str "-"))))) (fSl (fVar 0) (oSome (fC (.dat (.int (1))))) oNone) (fVar 0))
abbrev st3 (z : Str) (c1 : Option AV) : S := [some (.dat (.str z)), c1, none]
theorem low_take {z y : Str} (h : low z) (s : ∀ c ∈ tl y, c ∈ tl z) : low y := fun c hc => h c (s c hc)
theorem first_run {z : Str} {R : FS} {N : EndsT} {x : KX} (hz : Tx z) (h : ∀ y, tl y = digitsOf (tl z) → R (st3 z (some (.dat (.str y)))) N x) : sCons (sSet 1 F1) R (st3 z none) N x := by
  have big : 1000 ≤ sizeLine := by decide
  have l := hz.l
  have lw : low (cutS z none (some (1 : Nat))) := low_take hz.w fun c hc => by rw [tl_to] at hc; exact List.mem_of_mem_take hc
  refine ⟨by omega, ⟨sh_low lw, by decide +kernel⟩, ?_⟩
  have done : ∀ y, tl y = digitsOf (tl z) → Tr.putK 1 (.dat (.str y)) (st3 z none) (fun ρ => R ρ N x) := fun y e => pkd (k := fun ρ => R ρ N x) (ρ := st3 z none) (i := 1) (c := none) rfl .no (h y e)
  refine ifs (b := eqD (.str (cutS z none (some (1 : Nat)))) (.str "-")) (fun e => ?_) fun e => ?_
  · rw [minus_eq] at e
    refine ⟨by omega, done _ ?_⟩
    rw [show tl (cutS z (some (1 : Int)) none) = (tl z).drop 1 from tl_from z 1]
    cases q : tl z with
    | nil => rfl
    | cons c cs =>
      have e := of_decide_eq_true e
      rw [q] at e
      cases e
      rfl
  · rw [minus_eq] at e
    refine done z ?_
    cases q : tl z with
    | nil => rfl
    | cons c cs =>
      have e := of_decide_eq_false e
      rw [q] at e
      exact (of_ne fun h => e (by rw [h]; rfl)).symm
abbrev BadF : FE := (fLc [2] (iSeq sK (fFrz 1)) (gN 2) (fTest (f2 (gIn true) (fVar 2) (fC (.dat (.str "0123456789"))))) (fFrz 2))
def bads (y : Str) : List Nat := (tl y).filter fun c => !isDig c
theorem bad_run {z y : Str} {P : AV → S → Prop} {x : KX} (l : y.length ≤ 300) (h : P (.own false (.list ((bads y).map fun c => PyData.str ⟨#[c]⟩))) (st3 z (some (.dat (.str y))))) : BadF (st3 z (some (.dat (.str y)))) P x := by
  refine ⟨rfl, ?_⟩
  refine lcF_by (fun i acc ρ => ρ = st3 z (some (.dat (.str y))) ∧ acc = (((tl y).take i).filter fun c => !isDig c).map fun c => PyData.str ⟨#[c]⟩) (fun i d acc ρ hd hI C' hC => ?_) (fun acc ρ hI => ?_) ⟨rfl, rfl⟩
  · obtain ⟨rfl, rfl⟩ := hI
    rw [List.getElem?_map] at hd
    obtain ⟨c, hc, rfl⟩ := Option.map_eq_some_iff.mp hd
    have tk : (tl y).take (i + 1) = (tl y).take i ++ [c] := by rw [List.take_add_one, show (tl y)[i]? = some c from hc]; rfl
    refine ⟨c, rfl, ?_⟩
    refine ifs (b := (true ^^ decide (c ∈ KP.dgs.cps.toList))) (fun e => ?_) fun e => ?_
    · have nd : isDig c = false := by rw [← dig_iff]; simpa using e
      refine ⟨?_, hC _ _ ⟨rfl, ?_⟩⟩
      · rw [List.length_map]
        refine small1000 (Nat.le_trans (List.length_filter_le _ _) (Nat.le_trans (List.length_take_le' _ _) ?_))
        rw [← len_tl]
        omega
      · rw [tk, List.filter_append, List.map_append, List.filter_cons_of_pos (by rw [nd]; rfl)]
        rfl
    · have nd : isDig c = true := by rw [← dig_iff]; simpa using e
      refine hC _ _ ⟨rfl, ?_⟩
      rw [tk, List.filter_append, List.map_append, List.filter_cons_of_neg (by rw [nd]; decide), List.filter_nil]
      exact (List.append_nil _).symm
  · obtain ⟨rfl, rfl⟩ := hI
    have full : (y.cps.toList.map fun c => (PyData.str ⟨#[c]⟩ : D)).length = (tl y).length := List.length_map ..
    rw [full, List.take_length]
    exact h
theorem lay_signs : ∀ cs : List Nat, (∀ c ∈ cs, c < 128) → PyData.canLayAll0 (cs.map fun c => PyData.str ⟨#[c]⟩) = true ∧ PyData.depthAll (cs.map fun c => PyData.str ⟨#[c]⟩) = 0
  | [], _ => ⟨by simp [PyData.canLayAll0], by simp [PyData.depthAll]⟩
  | c :: cs, w => by
    obtain ⟨a, b⟩ := lay_signs cs fun q hq => w q (List.mem_cons_of_mem _ hq)
    have s := SeqAt.canLay_of_shaped (sh_low (z := ⟨#[c]⟩) fun q hq => by
      rw [List.mem_singleton.mp (show q ∈ [c] from hq)]
      exact w c List.mem_cons_self)
    rw [List.map_cons]
    constructor
    · rw [PyData.canLayAll0, s, a]
      rfl
    · rw [PyData.depthAll, b]
      rfl
abbrev RetN : FS := (sRet (fIf (fTest (f2 gEq (fB (g1 gStr) (fCons (fB (g1 gIntS) (fCons (fVar 0) fNil)) fNil)) (fVar 0))) (fB (g1 gIntS) (fCons (fVar 0) fNil)) (fC (.dat (.none)))))
theorem ret_num {z y : Str} {k : AV → Prop} {x : KX} (hz : Tx z) (ey : tl y = digitsOf (tl z)) (ne : digitsOf (tl z) ≠ []) (all : AllDigits (digitsOf (tl z))) (hk : k (.dat (if numB z = true then .int (numV z) else .none))) : RetN (st3 z (some (.dat (.str y)))) (Ok k) x := by
  have l := hz.l
  have iz := int_of hz ne all
  have sm : (numV z).natAbs.log2 < 1920 := by
    by_cases q : (numV z).natAbs = 0
    · rw [q]; decide
    · exact (Nat.log2_lt q).mpr (Nat.lt_trans (numV_small hz all) (by decide))
  have sn : SeqAt.shaped (.str (numS (numV z))) = true := by rw [numS_eq]; exact KP.numT_sh _
  have eb : numB z = eqD (.str (numS (numV z))) (.str z) := by
    rw [eqS]
    have c := canon ne all
    unfold numB
    have e1 : (!(digitsOf (tl z)).isEmpty) = true := by
      cases e : digitsOf (tl z) with
      | nil => exact absurd e ne
      | cons _ _ => rfl
    have e2 : (digitsOf (tl z)).all isDig = true := List.all_eq_true.mpr fun q hq => decide_eq_true (by have := all q hq; omega)
    rw [e1, e2]
    by_cases h : numS (numV z) = z
    · rw [decide_eq_true h]
      rcases c.mp h with h | h
      · rw [decide_eq_true h]; rfl
      · rw [decide_eq_false h, Bool.not_false, Bool.or_true]; rfl
    · rw [decide_eq_false h]
      have n1 : ¬ tl z = [48] := fun q => h (c.mpr (.inl q))
      have n2 : (digitsOf (tl z)).head? = some 48 := Decidable.byContradiction fun q => h (c.mpr (.inr q))
      rw [decide_eq_false n1, decide_eq_true n2]
      rfl
  rw [eb] at hk
  refine ⟨z, numV z, rfl, iz, by omega, sm, ⟨sn, sh_low hz.w⟩, ?_⟩
  refine ifs (b := eqD (.str (numS (numV z))) (.str z)) (fun e => ?_) fun e => ?_
  · rw [if_pos e] at hk
    exact ⟨z, numV z, rfl, iz, by omega, hk⟩
  · rw [if_neg (by rw [e]; decide)] at hk
    exact hk
theorem imp_numIn : ∀ as k x, as.length = 1 → F_numIn as k x → KQ.fb_law_number_in (start0 3 as) (Ok k) fun c _ => x c := by
  rintro _ k x _ ⟨z, rfl, hz, hk⟩
  show sCons (sSet 1 F1) _ (st3 z none) (Ok k) _
  refine first_run hz fun y ey => ?_
  have yl : y.length ≤ 300 := by
    rw [len_tl, ey]
    exact Nat.le_trans (digits_le _) (by rw [← len_tl]; exact hz.l)
  have yw : low y := fun c hc => by rw [ey] at hc; exact hz.w c (digits_sub hc)
  have sy := sh_low yw
  have no : numB z = false → k (.dat .none) := fun e => by
    rw [if_neg (by rw [e]; decide)] at hk
    exact hk
  cases et : tl y with
  | nil =>
    have nb : numB z = false := by unfold numB; rw [← ey, et]; rfl
    refine ⟨⟨sy, KP.sh_e⟩, ?_⟩
    rw [show eqD (.str y) (.str "") = true by rw [eqS]; exact decide_eq_true (str_nil et)]
    exact no nb
  | cons c cs =>
    refine ⟨⟨sy, KP.sh_e⟩, ?_⟩
    rw [KP.ne_empty et]
    have low_ : ∀ q ∈ bads y, q < 128 := fun q hq => yw q (List.mem_filter.mp hq).1
    obtain ⟨la, lb⟩ := lay_signs (bads y) low_
    have go : fTest (f2 gNe BadF (fDisp .newl fNil)) (st3 z (some (.dat (.str y)))) (fun b ρ => if b = true then sRet (fC (.dat (.none))) ρ { Ok k with nx := fun ρ' => RetN ρ' (Ok k) fun c _ => x c } (fun c _ => x c) else sNil ρ { Ok k with nx := fun ρ' => RetN ρ' (Ok k) fun c _ => x c } fun c _ => x c) fun c _ => x c := by
      unfold fTest f2
      refine bad_run yl ?_
      refine ⟨sz (by simp), ⟨sh_list la lb, KF.sh_nil⟩, ?_⟩
      cases eb : bads y with
      | nil =>
        rw [show eqD (.list (([] : List Nat).map fun c => PyData.str ⟨#[c]⟩)) (.list []) = true from eq_nil_nil]
        have all : AllDigits (digitsOf (tl z)) := fun q hq => by
          rw [← ey] at hq
          have : isDig q = true := Decidable.byContradiction fun n => by
            have m : q ∈ bads y := List.mem_filter.mpr ⟨hq, by simpa using n⟩
            rw [eb] at m
            cases m
          have := of_decide_eq_true this
          omega
        exact ret_num hz ey (by rw [← ey, et]; exact List.cons_ne_nil _ _) all hk
      | cons q qs =>
        rw [show eqD (.list ((q :: qs).map fun c => PyData.str ⟨#[c]⟩)) (.list []) = false from eq_cons_nil _ _]
        have m : q ∈ bads y := by rw [eb]; exact List.mem_cons_self
        obtain ⟨m1, m2⟩ := List.mem_filter.mp m
        refine no ?_
        unfold numB
        rw [← ey]
        have na : (tl y).all isDig = false := by
          cases h : (tl y).all isDig with
          | false => rfl
          | true =>
            have := List.all_eq_true.mp h q m1
            rw [this] at m2
            cases m2
        rw [na, Bool.and_false]
        rfl
    exact go
end KQ
set_option Elab.async false
set_option linter.all false
set_option maxRecDepth 100000
namespace KP
open PySem PySem.Spec PyProof.Rows L2 Evl Kc Kz Kx Tr Mg K23 K22 K27 TL
theorem joinL_le (s : List Nat) (m : Nat) : ∀ l : List (List Nat), (∀ p ∈ l, p.length ≤ m) → (joinL s l).length ≤ l.length * (m + s.length)
  | [], _ => Nat.zero_le _
  | [p], h => by
    have := h p (List.mem_singleton_self p)
    show p.length ≤ 1 * _
    omega
  | p :: q :: r, h => by
    have ih := joinL_le s m (q :: r) fun z hz => h z (List.mem_cons_of_mem _ hz)
    have := h p List.mem_cons_self
    show (p ++ (s ++ joinL s (q :: r))).length ≤ ((q :: r).length + 1) * _
    rw [List.length_append, List.length_append, Nat.succ_mul]
    omega
theorem join_le {y : Str} {ys : List Str} {m : Nat} (h : ∀ z ∈ ys, z.length ≤ m) : (Txt.join y ys).length ≤ ys.length * (m + y.length) := by
  rw [len_tl, join_eq, tl_join, len_tl y]
  refine Nat.le_trans (joinL_le (tl y) m (ys.map tl) fun p hp => ?_) (by rw [List.length_map]; exact Nat.le_refl _)
  obtain ⟨z, hz, rfl⟩ := List.mem_map.mp hp
  rw [← len_tl]
  exact h z hz
theorem sum_le {ys : List Str} {m : Nat} (h : ∀ z ∈ ys, z.length ≤ m) : (ys.map (·.length)).sum ≤ ys.length * m := by
  induction ys with
  | nil => exact Nat.zero_le _
  | cons y ys ih =>
    have := ih fun z hz => h z (List.mem_cons_of_mem _ hz)
    have := h y List.mem_cons_self
    rw [List.length_cons, Nat.succ_mul, List.map_cons, List.sum_cons]
    omega
theorem ver_val {n : Nat} {rows : List Mg.Row} {ds : List D} (vo : VerOk n rows ds) {i : Nat} {d : D} (h : ds[i]? = some d) : ∃ r ∈ rows, ValOk n r.2 d := by
  have hi := (List.getElem?_eq_some_iff.mp h).1
  have hr : rows[i]? = some (rows[i]'(by rw [vo.len]; exact hi)) := List.getElem?_eq_getElem _
  obtain ⟨c, hc, v⟩ := vo.get hr
  rw [h] at hc
  cases hc
  exact ⟨_, List.getElem_mem _, v⟩
theorem valT_ok {kd : Str} {d : D} (h : ValOk 100 kd d) : (valT d).length ≤ 32 ∧ ∀ c ∈ tl (valT d), 45 ≤ c ∧ c < 128 := by
  cases d <;> first | exact h.elim | skip
  · exact ⟨numT_len h.2, fun c hc => by have := numT_mem _ c hc; omega⟩
  · rename_i z
    obtain ⟨_, _, _, _, _, low⟩ := word_top h.2
    have := (word_parts h.2).2.1
    exact ⟨by show z.length ≤ 32; omega, fun c hc => by have := low c hc; omega⟩
theorem imp_valT : ∀ as k x, as.length = 1 → F_valT as k x → KP.fb_value_text (start0 1 as) (Ok k) fun c _ => x c := by
  rintro _ k x _ ⟨d, kd, rfl, h, hk⟩
  cases d <;> first | exact h.elim | skip
  · exact ⟨Nat.zero_le 1, rfl, _, rfl, h.2, .inl rfl, hk⟩
  · exact hk
theorem imp_readV : ∀ as k x, as.length = 1 → F_readV as k x → KP.fb_read_value (start0 1 as) (Ok k) fun c _ => x c := by
  rintro _ k x _ ⟨d, kd, rfl, h, hk⟩
  cases d <;> first | exact h.elim | skip
  · exact ⟨Nat.zero_le 1, rfl, _, rfl, .inl ⟨_, h.2, rfl, .inl rfl, Nat.zero_le 1, rfl, _, rfl, h.2, .inl rfl, hk⟩⟩
  · exact ⟨Nat.zero_le 1, rfl, _, rfl, .inr ⟨h.2, .inl rfl, hk⟩⟩
theorem split_ver {rows : List Mg.Row} {ds : List D} (vo : VerOk 100 rows ds) (ne : ds ≠ []) : Txt.split (verT ds) "," = ds.map valT := by
  refine split_join (s := 44) (S := []) rfl (by decide +kernel) (fun e => ne (List.map_eq_nil_iff.mp e)) fun p hp z => ?_
  obtain ⟨d, hd, rfl⟩ := List.mem_map.mp hp
  obtain ⟨i, hi⟩ := List.getElem?_of_mem hd
  obtain ⟨r, _, v⟩ := ver_val vo hi
  have := (valT_ok v).2 44 z
  omega
end KP
set_option Elab.async false
set_option linter.all false
set_option maxRecDepth 100000
namespace KQ
open PySem PySem.Spec PyProof.Rows L2 Evl Kc Kz Kx Tr Mg K23 K22 K27 K24 KA KB KF TL
open KP (sh_low)
theorem joinL_mem (s : List Nat) : ∀ (ps : List (List Nat)) {q : List Nat} {c : Nat}, q ∈ ps → c ∈ q → c ∈ joinL s ps
  | [], _, _, h, _ => nomatch h
  | [p], q, c, h, hc => by
    rw [List.mem_singleton.mp h] at hc
    exact hc
  | p :: r :: rs, q, c, h, hc => by
    show c ∈ p ++ (s ++ joinL s (r :: rs))
    obtain rfl | h := List.mem_cons.mp h
    · exact List.mem_append_left _ hc
    · exact List.mem_append_right _ (List.mem_append_right _ (joinL_mem s (r :: rs) h hc))
theorem part_tx {z p : Str} (hz : Tx z) (h : p ∈ Txt.split z ",") : Tx p := by
  refine ⟨Nat.le_trans (part_short h) hz.l, fun c hc => hz.w c ?_⟩
  have e : Str.join "," (Txt.split z ",") = z := StrLaws.join_split z ","
  rw [← e, tl_join]
  exact joinL_mem _ _ (List.mem_map.mpr ⟨p, h, rfl⟩) hc
theorem parts_len {z : Str} (hz : Tx z) : (Txt.split z ",").length ≤ 302 := Nat.le_trans (split_le z ",") (by have := hz.l; omega)
theorem short_ver {n : Nat} {rows : List Mg.Row} {v : List D} (h : VerOk n rows v) (hr : rows.length ≤ 20) : Short (.tuple v) := by
  refine ⟨fun d hd => ?_, fun us e => by cases e; have := h.len; omega⟩
  obtain ⟨i, hi⟩ := List.getElem?_of_mem hd
  obtain ⟨r, _, w⟩ := KP.ver_val h hi
  cases d <;> first | exact trivial | skip
  show _ ≤ 1000
  have := (word_parts w.2).2.1
  omega
theorem imp_valT : ∀ as k x, as.length = 1 → F_valT as k x → KQ.fb_value_text (start0 1 as) (Ok k) fun c _ => x c := by
  rintro _ k x _ ⟨d, kd, rfl, h, hk⟩
  cases d <;> first | exact h.elim | skip
  · exact ⟨Nat.zero_le 1, rfl, _, rfl, h.2, .inl rfl, hk⟩
  · exact hk
theorem imp_readV : ∀ as k x, as.length = 1 → F_readV as k x → KQ.fb_read_value (start0 1 as) (Ok k) fun c _ => x c := by
  rintro _ k x _ ⟨z, rfl, hz, hk⟩
  unfold readV at hk
  refine ⟨Nat.zero_le 1, rfl, z, rfl, hz, .inl rfl, ifs (b := numB z) (fun e => ?_) fun e => ?_⟩
  · rw [if_pos e] at hk
    exact ⟨Nat.zero_le 1, rfl, z, rfl, hz, e, .inl rfl, hk⟩
  · rw [if_neg (by rw [e]; decide)] at hk
    exact hk
theorem valT_ok {kd : Str} {d : D} (h : ValOk 300 kd d) : (valT d).length ≤ 92 := by
  cases d <;> first | exact h.elim | skip
  · rename_i i
    show (numS i).length ≤ 92
    rw [numS_eq]
    have l : (KP.digs i.natAbs).length ≤ 91 := by
      rw [len_tl, KP.tl_digs, List.length_map, List.length_reverse]
      exact revD_long h.2
    unfold KP.numT
    split
    · rw [app_len]
      show 1 + _ ≤ _
      omega
    · omega
  · rename_i z
    have := (word_parts h.2).2.1
    show z.length ≤ 92
    omega
theorem imp_verTX (C DV : Addr) : ∀ as k x, as.length = 2 → F_verTX C DV as k x → KQ.fb_version_text C DV (start0 3 as) (Ok k) fun c _ => x c := by
  rintro _ k x _ ⟨rows, d, rfl, hr, ht, ⟨ds, rfl, vo, hk⟩ | ⟨nb, sh, kp, hx⟩⟩
  · have dl : ds.length ≤ 8 := by rw [← vo.len]; exact hr
    obtain ⟨s1, s2⟩ := short_ver vo (by omega)
    refine ⟨Nat.zero_le 1, rfl, rows, _, rfl, by omega, ht, s1, s2, .inl rfl, ?_⟩
    rw [show versionB rows (.tuple ds) = true from values_of vo]
    refine ⟨⟨_, rfl⟩, rfl, ?_⟩
    refine lcF_by (fun i acc ρ => ρ = start0 3 [schO C rows, .dat (.tuple ds)] ∧ acc = sts ((ds.take i).map valT)) (fun i d acc ρ hd hI C' hC => ?_) (fun acc ρ hI => ?_) ⟨rfl, rfl⟩
    · obtain ⟨rfl, rfl⟩ := hI
      obtain ⟨r, _, v⟩ := KP.ver_val vo hd
      refine pkd rfl .no ?_
      refine ⟨Nat.zero_le 1, rfl, d, r.2, rfl, v, .inl rfl, ?_⟩
      refine ⟨?_, hC _ _ ⟨rfl, ?_⟩⟩
      · rw [List.length_map, List.length_map]
        exact small1000 (Nat.le_trans (List.length_take_le' _ _) (by omega))
      · rw [take_succ hd, List.map_append, sts_app]
        rfl
    · obtain ⟨rfl, rfl⟩ := hI
      rw [List.take_length]
      have ok : ∀ z ∈ ds.map valT, z.length ≤ 92 := fun z hz => by
        obtain ⟨d, hd, rfl⟩ := List.mem_map.mp hz
        obtain ⟨i, hi⟩ := List.getElem?_of_mem hd
        obtain ⟨r, _, v⟩ := KP.ver_val vo hi
        exact valT_ok v
      refine strs_of ⟨?_, hk⟩
      have := KP.sum_le ok
      rw [List.length_map] at this ⊢
      show _ + _ * 1 ≤ _
      omega
  · refine ⟨Nat.zero_le 1, rfl, rows, d, rfl, by omega, ht, sh.1, sh.2, .inl rfl, ?_⟩
    rw [nb]
    exact ⟨kp, hx⟩
theorem imp_readX (C DT : Addr) : ∀ as k x, as.length = 2 → F_readX C DT as k x → KQ.fb_read_version C DT (start0 4 as) (Ok k) fun c _ => x c := by
  rintro _ k x _ ⟨rows, d, rfl, hr, ht, ⟨z, rfl, ⟨zl, zw⟩, o⟩ | ⟨ns, hx⟩⟩
  · have hz : Tx z := ⟨zl, zw⟩
    have big : 1000 ≤ sizeLine := by decide
    have pl := parts_len hz
    refine ⟨⟨_, rfl⟩, rfl, (show z.length + 2 ≤ sizeLine by omega), rfl, ?_⟩
    refine lcF_by (fun i acc ρ => ρ = start0 4 [schO C rows, .dat (.str z)] ∧ acc = ((Txt.split z ",").take i).map readV) (fun i d acc ρ hd hI C' hC => ?_) (fun acc ρ hI => ?_) ⟨rfl, rfl⟩
    · obtain ⟨rfl, rfl⟩ := hI
      rw [List.getElem?_map] at hd
      obtain ⟨p, hp, rfl⟩ := Option.map_eq_some_iff.mp hd
      refine pkd rfl .no ?_
      refine ⟨Nat.zero_le 1, rfl, p, rfl, part_tx hz (List.mem_of_getElem? hp), .inl rfl, ?_⟩
      refine ⟨?_, hC _ _ ⟨rfl, ?_⟩⟩
      · rw [List.length_map]
        exact small1000 (Nat.le_trans (List.length_take_le' _ _) (by omega))
      · rw [take_succ hp, List.map_append]
        rfl
    · obtain ⟨rfl, rfl⟩ := hI
      rw [List.length_map, List.take_length]
      have s1 : shortVs (rowV z) := fun d hd => by
        obtain ⟨p, hp, rfl⟩ := List.mem_map.mp hd
        unfold readV
        split
        · exact trivial
        · have := (part_tx hz hp).l
          show p.length ≤ 1000
          omega
      refine ⟨Nat.zero_le 1, rfl, rows, rowV z, rfl, by omega, ht, s1, fun ds e => by cases e; rw [List.length_map]; omega, .inl rfl, ?_⟩
      rcases o with ⟨vb, hk⟩ | ⟨vb, hx⟩
      · rw [vb]
        exact hk
      · rw [vb]
        exact ⟨rfl, hx⟩
  · cases d <;> first | exact ⟨rfl, hx⟩ | cases ns
end KQ
set_option Elab.async false
set_option linter.all false
set_option maxRecDepth 100000
namespace KQ
open PySem PySem.Spec PyProof.Rows L2 Evl Kc Kz Kx Tr Mg K23 K22 K27 K24 KA KB KF TL
open KP (sh_low)
/-- what the law puts for a part -/
def partV (r : Mg.Row) (p : Str) : D := if r.2 = "counter" then (if numB p = true then .int (numV p) else .none) else .str p
theorem word_no {p : Str} (w : word p) : numB p = false := by
  obtain ⟨c, cs, e, l, u, _⟩ := KP.word_top w
  unfold numB
  rw [e, of_ne (by omega)]
  have : isDig c = false := decide_eq_false (by omega)
  show ((_ && (isDig c && _)) && _) = false
  rw [this, Bool.false_and, Bool.and_false]
  rfl
theorem part_same {r : Mg.Row} (t : three r.2) (p : Str) : valueB r.2 (partV r p) = valueB r.2 (readV p) ∧ (valueB r.2 (partV r p) = true → partV r p = readV p) := by
  unfold partV readV
  by_cases c : r.2 = "counter"
  · rw [if_pos c]
    by_cases n : numB p = true
    · rw [if_pos n, if_pos n]
      exact ⟨rfl, fun _ => rfl⟩
    · rw [if_neg n, if_neg n]
      unfold valueB
      rw [if_pos c, if_pos c]
      exact ⟨rfl, fun h => nomatch h⟩
  · rw [if_neg c]
    by_cases n : numB p = true
    · rw [if_pos n]
      unfold valueB
      rw [if_neg c, if_neg c]
      have nw : nameB (.str p) = false := by
        cases e : nameB (.str p) with
        | false => rfl
        | true =>
          have := word_no (p := p) e
          rw [n] at this
          cases this
      rw [nw]
      exact ⟨rfl, fun h => nomatch h⟩
    · rw [if_neg n]
      exact ⟨rfl, fun _ => rfl⟩
theorem row_same : ∀ {rows : List Mg.Row} {ps : List Str}, (∀ r ∈ rows, three r.2) → rows.length = ps.length → valuesB rows (List.zipWith partV rows ps) = valuesB rows (ps.map readV) ∧ (valuesB rows (List.zipWith partV rows ps) = true → List.zipWith partV rows ps = ps.map readV)
  | [], [], _, _ => ⟨rfl, fun _ => rfl⟩
  | r :: rows, p :: ps, t, l => by
    obtain ⟨a, b⟩ := part_same (t r List.mem_cons_self) p
    obtain ⟨c, d⟩ := row_same (rows := rows) (ps := ps) (fun q hq => t q (List.mem_cons_of_mem _ hq)) (Nat.succ.inj l)
    constructor
    · show (valueB r.2 (partV r p) && valuesB rows (List.zipWith partV rows ps)) = (valueB r.2 (readV p) && valuesB rows (ps.map readV))
      rw [a, c]
    · intro h
      obtain ⟨h1, h2⟩ := Bool.and_eq_true_iff.mp (show (valueB r.2 (partV r p) && valuesB rows (List.zipWith partV rows ps)) = true from h)
      show partV r p :: List.zipWith partV rows ps = readV p :: ps.map readV
      rw [b h1, d h2]
  | [], _ :: _, _, l => nomatch l
  | _ :: _, [], _, l => nomatch l
theorem vals_len : ∀ {rows : List Mg.Row} {ds : List D}, valuesB rows ds = true → rows.length = ds.length
  | [], [], _ => rfl
  | r :: rows, d :: ds, h => by
    obtain ⟨_, h2⟩ := Bool.and_eq_true_iff.mp (show (valueB r.2 d && valuesB rows ds) = true from h)
    show rows.length + 1 = ds.length + 1
    rw [vals_len h2]
  | [], _ :: _, h => nomatch h
  | _ :: _, [], h => nomatch h
theorem zipL : ∀ {xs ys : List D}, xs.length = ys.length → (zipD xs ys).length = xs.length
  | [], [], _ => rfl
  | x :: xs, y :: ys, h => congrArg Nat.succ (zipL (xs := xs) (ys := ys) (Nat.succ.inj h))
  | [], _ :: _, h => nomatch h
  | _ :: _, [], h => nomatch h
abbrev stW (rows : List Mg.Row) (z : Str) (fs : List D) (c4 c5 : Option AV) : S := [some (.dat (flD rows)), some (.dat (.str z)), some (.dat (.list (sts (Txt.split z ",")))), some (.own false (.list fs)), c4, c5]
theorem imp_rowIn : ∀ as k x, as.length = 2 → F_rowIn as k x → KQ.fb_law_row_in (start0 6 as) (Ok k) fun c _ => x c := by
  rintro _ k x _ ⟨rows, z, rfl, hr, ht, hz, hk⟩
  have big : 1000 ≤ sizeLine := by decide
  have zl := hz.l
  have pl := parts_len hz
  have no : versionB rows (rowV z) = false → k (.dat .none) := fun e => by
    rw [if_neg (by rw [e]; decide)] at hk
    exact hk
  refine ⟨⟨_, rfl⟩, rfl, (show z.length + 2 ≤ sizeLine by omega), ?_⟩
  refine ⟨sz (by simp), pkd (d := .list (sts (Txt.split z ","))) rfl .no (pk (a := .own false (.list [])) (c := none) rfl .no rfl (fun _ => nofun) ?_)⟩
  have l1 : ((sts (Txt.split z ",")).length : Int) = (Txt.split z ",").length := by rw [List.length_map]
  have l2 : ((rows.map rowD).length : Int) = rows.length := by rw [List.length_map]
  refine ⟨⟨sh_int _, sh_int _⟩, ?_⟩
  refine ifs (b := (!eqD (.int ((sts (Txt.split z ",")).length : Int)) (.int ((rows.map rowD).length : Int)))) (fun e => ?_) fun e => ?_
  · refine no ?_
    cases q : versionB rows (rowV z) with
    | false => rfl
    | true =>
      have := vals_len (show valuesB rows ((Txt.split z ",").map readV) = true from q)
      rw [List.length_map] at this
      rw [eqI, l1, l2, decide_eq_true (by omega)] at e
      cases e
  · have len : rows.length = (Txt.split z ",").length := by
      rw [eqI, l1, l2] at e
      have e : decide (((Txt.split z ",").length : Int) = (rows.length : Int)) = true := by
        cases q : decide (((Txt.split z ",").length : Int) = (rows.length : Int)) with
        | true => rfl
        | false => rw [q] at e; cases e
      have := of_decide_eq_true e
      omega
    refine forF_by (fun i ρ => ∃ c4 c5, ρ = stW rows z (List.zipWith partV (rows.take i) ((Txt.split z ",").take i)) c4 c5 ∧ Cl c4 ∧ Cl c5) (fun i d ρ hd hI C' hC => ?_) (fun ρ hI => ?_) ⟨none, none, rfl, .no, .no⟩
    · obtain ⟨c4, c5, rfl, k4, k5⟩ := hI
      obtain ⟨a, b, ha, hb, rfl⟩ := K23.zip_get hd
      obtain ⟨r, hr1, rfl⟩ := row_get ha
      rw [List.getElem?_map] at hb
      obtain ⟨p, hp, rfl⟩ := Option.map_eq_some_iff.mp hb
      have tr := ht r (List.mem_of_getElem? hr1)
      have tp := part_tx hz (List.mem_of_getElem? hp)
      have sm : (List.zipWith partV (rows.take i) ((Txt.split z ",").take i)).length < sizeLine := by
        rw [List.length_zipWith]
        refine small1000 (Nat.le_trans (Nat.min_le_left _ _) (Nat.le_trans (List.length_take_le' _ _) (by omega)))
      have nx : List.zipWith partV (rows.take (i + 1)) ((Txt.split z ",").take (i + 1)) = List.zipWith partV (rows.take i) ((Txt.split z ",").take i) ++ [partV r p] := by
        rw [take_succ hr1, take_succ hp, List.zipWith_append (by rw [List.length_take, List.length_take, len])]
        rfl
      have fin : C' (stW rows z (List.zipWith partV (rows.take i) ((Txt.split z ",").take i) ++ [partV r p]) (some (.dat (rowD r))) (some (.dat (.str p)))) := hC _ ⟨_, _, by rw [nx], .dat, .dat⟩
      refine ⟨rfl, pd rfl k4 (conK (pd rfl k5 (nilK ?_)))⟩
      unfold partV at fin
      refine ⟨_, rfl, ⟨three_sh tr, sh_cnt⟩, ifS (fun e => ?_) fun e => ?_⟩
      · rw [if_pos e] at fin
        exact ⟨Nat.zero_le 1, rfl, p, rfl, tp, .inl rfl, rfl, sm, fin⟩
      · rw [if_neg e] at fin
        exact ⟨rfl, sm, fin⟩
    · obtain ⟨c4, c5, rfl, _⟩ := hI
      have zl2 : (zipD (rows.map rowD) (sts (Txt.split z ","))).length = rows.length := (zipL (by rw [List.length_map, List.length_map]; exact len)).trans (List.length_map _)
      rw [zl2]
      have e1 : rows.take rows.length = rows := List.take_length
      have e2 : (Txt.split z ",").take rows.length = Txt.split z "," := List.take_of_length_le (by omega)
      rw [e1, e2]
      obtain ⟨s1, s2⟩ := row_same ht len
      have zw : (List.zipWith partV rows (Txt.split z ",")).length ≤ 302 := by
        rw [List.length_zipWith]
        exact Nat.le_trans (Nat.min_le_right _ _) pl
      refine ⟨Nat.zero_le 1, rfl, rows, .tuple (List.zipWith partV rows (Txt.split z ",")), rfl, by omega, ht, fun d hd => ?_, fun ds e => by cases e; omega, .inl rfl, ?_⟩
      · obtain ⟨i, hi⟩ := List.getElem?_of_mem hd
        rw [List.getElem?_zipWith] at hi
        cases h1 : rows[i]? with
        | none => rw [h1] at hi; cases hi
        | some r =>
          cases h2 : (Txt.split z ",")[i]? with
          | none => rw [h1, h2] at hi; cases hi
          | some p =>
            rw [h1, h2] at hi
            cases hi
            have := (part_tx hz (List.mem_of_getElem? h2)).l
            unfold partV
            split
            · split <;> exact trivial
            · show p.length ≤ 1000
              omega
      · refine ifs (b := versionB rows (.tuple (List.zipWith partV rows (Txt.split z ",")))) (fun e => ?_) fun e => ?_
        · have e3 : versionB rows (rowV z) = true := s1.symm.trans e
          rw [if_pos e3] at hk
          have e4 := s2 e
          show k (.dat (.tuple (List.zipWith partV rows (Txt.split z ","))))
          rw [e4]
          exact hk
        · exact no (s1.symm.trans e)
end KQ
set_option Elab.async false
set_option linter.all false
set_option maxRecDepth 100000
namespace KQ
open PySem PySem.Spec PyProof.Rows L2 Evl Kc Kz Kx Tr Mg K23 K22 K27 K24 KA KB KF TL
open KP (sh_low tl_app)
theorem imp_lineOf : ∀ as k x, as.length = 2 → F_lineOf as k x → KQ.fb_law_line_of (start0 3 as) (Ok k) fun c _ => x c := by
  rintro _ k x _ ⟨rows, ds, rfl, hr, ht, vo, hk⟩
  have dl : ds.length ≤ 8 := by rw [← vo.len]; exact hr
  have rl : ((rows.map rowD).length : Int) = rows.length := by rw [List.length_map]
  refine ⟨⟨_, rfl⟩, ⟨by omega, by omega⟩, rfl, ?_⟩
  refine lcF_by (fun i acc ρ => ρ = start0 3 [.dat (flD rows), .dat (.tuple ds)] ∧ acc = sts ((ds.take i).map valT)) (fun i d acc ρ hd hI C' hC => ?_) (fun acc ρ hI => ?_) ⟨rfl, rfl⟩
  · obtain ⟨rfl, rfl⟩ := hI
    obtain ⟨hi, rfl⟩ := rngD_get hd
    have hi' : i < rows.length := by omega
    have hr1 : rows[i]? = some rows[i] := List.getElem?_eq_getElem hi'
    generalize rows[i] = r at hr1
    obtain ⟨d, hd1, v⟩ := vo.get hr1
    have tr := ht r (List.mem_of_getElem? hr1)
    have sm : (sts ((ds.take i).map valT)).length < sizeLine := by
      rw [List.length_map, List.length_map]
      exact small1000 (Nat.le_trans (List.length_take_le' _ _) (by omega))
    have fin : C' (sts ((ds.take i).map valT) ++ [.str (valT d)]) (start0 3 [.dat (flD rows), .dat (.tuple ds)]) := hC _ _ ⟨rfl, by rw [take_succ hd1, List.map_append, sts_app]; rfl⟩
    have a1 : atI (rows.map rowD) (0 + (i : Nat) : Int) = some (rowD r) := by
      rw [Int.zero_add]
      exact atI_nat (by rw [List.getElem?_map, hr1]; rfl)
    have a2 : atI ds (0 + (i : Nat) : Int) = some d := by
      rw [Int.zero_add]
      exact atI_nat hd1
    refine pd rfl .no ?_
    refine ⟨rowD r, a1, .str r.2, rfl, ⟨three_sh tr, sh_cnt⟩, ifNS (fun e => ?_) fun e => ?_⟩
    · rcases val_three tr v with ⟨c, _⟩ | ⟨_, w, rfl, _⟩
      · exact absurd c e
      · exact ⟨_, a2, sm, fin⟩
    · rcases val_three tr v with ⟨_, j, rfl⟩ | ⟨c, _⟩
      · have j3 : j.natAbs < 2 ^ 300 := v.2
        have lg : j.natAbs.log2 < 1920 := by
          by_cases q : j.natAbs = 0
          · rw [q]; decide
          · exact (Nat.log2_lt q).mpr (Nat.lt_trans j3 (by decide))
        exact ⟨_, a2, lg, sm, fin⟩
      · exact absurd e c
  · obtain ⟨rfl, rfl⟩ := hI
    rw [List.take_of_length_le (l := ds) (by rw [rngD_len, ← vo.len]; omega)]
    have ok : ∀ z ∈ ds.map valT, z.length ≤ 92 := fun z hz => by
      obtain ⟨d, hd, rfl⟩ := List.mem_map.mp hz
      obtain ⟨i, hi⟩ := List.getElem?_of_mem hd
      obtain ⟨r, _, v⟩ := KP.ver_val vo hi
      exact valT_ok v
    refine strs_of ⟨?_, hk⟩
    have := KP.sum_le ok
    rw [List.length_map] at this ⊢
    show _ + _ * 1 ≤ _
    omega
abbrev TailS : FS := (sIf (fTest (f2 gGt (fVar 1) (fC (.dat (.int (60)))))) (sRet (fC (.dat (.bool false)))) sNil)
theorem imp_short : ∀ as k x, as.length = 1 → F_short as k x → KQ.fb_law_is_short (start0 3 as) (Ok k) fun c _ => x c := by
  rintro _ k x _ ⟨z, rfl, hz, hk⟩
  show forF (gN 2) _ (z.cps.toList.map fun c => PyData.str ⟨#[c]⟩) [some (.dat (.str z)), some (.dat (.int 0)), none] _ _
  refine forF_by (fun m ρ => ∃ (n : Int) (c2 : Option AV), ρ = [some (.dat (.str z)), some (.dat (.int n)), c2] ∧ Cl c2) (fun m d ρ hd hI C' hC => ?_) (fun ρ hI => ?_) ⟨0, none, rfl, .no⟩
  · obtain ⟨n, c2, rfl, k2⟩ := hI
    rw [List.getElem?_map] at hd
    obtain ⟨c, hc, rfl⟩ := Option.map_eq_some_iff.mp hd
    refine pd rfl k2 ?_
    have tail : ∀ n : Int, (sIf (fTest (f2 gGt (fVar 1) (fC (.dat (.int (60)))))) (sRet (fC (.dat (.bool false)))) sNil) [some (.dat (.str z)), some (.dat (.int n)), some (.dat (.str ⟨#[c]⟩))] { nx := C', rt := fun a ρ => rtK a ρ k } fun c _ => x c := fun n => by
      refine ifs (fun _ => hk false) fun _ => hC _ ⟨n, some (.dat (.str ⟨#[c]⟩)), rfl, .dat⟩
    refine ⟨c, rfl, ifs (fun _ => ?_) fun _ => ?_⟩
    · exact pkd (k := fun ρ => TailS ρ { nx := C', rt := fun a ρ => rtK a ρ k } fun c _ => x c) (ρ := [some (.dat (.str z)), some (.dat (.int n)), some (.dat (.str ⟨#[c]⟩))]) (i := 1) (d := .int (n + 1)) rfl .dat (tail (n + 1))
    · exact pkd (k := fun ρ => TailS ρ { nx := C', rt := fun a ρ => rtK a ρ k } fun c _ => x c) (ρ := [some (.dat (.str z)), some (.dat (.int n)), some (.dat (.str ⟨#[c]⟩))]) (i := 1) (d := .int 0) rfl .dat (tail 0)
  · obtain ⟨n, c2, rfl, k2⟩ := hI
    exact hk true
def upc (c : Nat) : Nat := if 97 ≤ c ∧ c ≤ 122 then c - 32 else c
theorem upper_tl : ∀ l : List Nat, (∀ c ∈ l, c < 128) → tl (Txt.upper ⟨l.toArray⟩) = l.map upc
  | [], _ => rfl
  | c :: l, h => by
    have e : (⟨(c :: l).toArray⟩ : Str) = ⟨#[c]⟩ ++ ⟨l.toArray⟩ := ext_tl (by rw [tl_app]; exact (List.toList_toArray ..).trans (congrArg (c :: ·) (List.toList_toArray ..).symm))
    rw [e, W.KOpn.upper_app, tl_app, W.KOpn.upper_one (h c List.mem_cons_self), upper_tl l fun q hq => h q (List.mem_cons_of_mem _ hq)]
    rfl
theorem upper_low {z : Str} (h : low z) : (Txt.upper z).length = z.length ∧ low (Txt.upper z) := by
  have e : z = ⟨(tl z).toArray⟩ := ext_tl (List.toList_toArray ..).symm
  have u := upper_tl (tl z) h
  rw [← e] at u
  refine ⟨by rw [len_tl, u, List.length_map, ← len_tl], fun c hc => ?_⟩
  rw [u] at hc
  obtain ⟨q, hq, rfl⟩ := List.mem_map.mp hc
  have := h q hq
  unfold upc
  split <;> omega
theorem low_app {a b : Str} (ha : low a) (hb : low b) : low (a ++ b) := fun c hc => by
  rw [tl_app] at hc
  rcases List.mem_append.mp hc with q | q
  · exact ha c q
  · exact hb c q
theorem joinL_len (s : List Nat) : ∀ l : List (List Nat), l ≠ [] → (joinL s l).length + s.length = (l.map List.length).sum + l.length * s.length
  | [], h => absurd rfl h
  | [p], _ => by
    show p.length + s.length = ([p.length]).sum + 1 * s.length
    rw [List.sum_cons, List.sum_nil]
    omega
  | p :: q :: r, _ => by
    have ih := joinL_len s (q :: r) (List.cons_ne_nil _ _)
    show (p ++ (s ++ joinL s (q :: r))).length + s.length = (p.length :: (q :: r).map List.length).sum + ((q :: r).length + 1) * s.length
    rw [List.length_append, List.length_append, List.sum_cons, Nat.succ_mul]
    omega
theorem joinL_all {s : List Nat} (hs : ∀ c ∈ s, c < 128) : ∀ l : List (List Nat), (∀ p ∈ l, ∀ c ∈ p, c < 128) → ∀ c ∈ joinL s l, c < 128
  | [], _, c, h => nomatch h
  | [p], w, c, h => w p (List.mem_singleton_self p) c h
  | p :: q :: r, w, c, h => by
    have h : c ∈ p ++ (s ++ joinL s (q :: r)) := h
    rcases List.mem_append.mp h with in1 | in2
    · exact w p List.mem_cons_self c in1
    · rcases List.mem_append.mp in2 with in3 | in4
      · exact hs c in3
      · exact joinL_all hs (q :: r) (fun p hp => w p (List.mem_cons_of_mem _ hp)) c in4
/-- one part in the place of another -/
theorem swap_part {z p w : Str} {A B : List Str} (hz : Tx z) (e : Txt.split z "," = A ++ p :: B) (hw : w.length ≤ p.length + 8) (lw : low w) : (Txt.join "," (A ++ w :: B)).length ≤ z.length + 8 ∧ low (Txt.join "," (A ++ w :: B)) := by
  have ez : Str.join "," (A ++ p :: B) = z := by rw [← e]; exact StrLaws.join_split z ","
  have l1 := joinL_len (tl ",") ((A ++ p :: B).map tl) (by simp)
  have l2 := joinL_len (tl ",") ((A ++ w :: B).map tl) (by simp)
  have z1 : (joinL (tl ",") ((A ++ p :: B).map tl)).length = z.length := by rw [← tl_join, ez, ← len_tl]
  have z2 : (joinL (tl ",") ((A ++ w :: B).map tl)).length = (Txt.join "," (A ++ w :: B)).length := by rw [← tl_join, ← join_eq, ← len_tl]
  have s1 : ((A ++ p :: B).map tl).map List.length = A.map (·.length) ++ p.length :: B.map (·.length) := by
    rw [List.map_map, List.map_append, List.map_cons]
    have f : (List.length ∘ tl) = fun z : Str => z.length := funext fun z => (len_tl z).symm
    rw [f]
  have s2 : ((A ++ w :: B).map tl).map List.length = A.map (·.length) ++ w.length :: B.map (·.length) := by
    rw [List.map_map, List.map_append, List.map_cons]
    have f : (List.length ∘ tl) = fun z : Str => z.length := funext fun z => (len_tl z).symm
    rw [f]
  rw [s1, List.sum_append, List.sum_cons, z1, List.length_map, List.length_append, List.length_cons] at l1
  rw [s2, List.sum_append, List.sum_cons, z2, List.length_map, List.length_append, List.length_cons] at l2
  refine ⟨by omega, fun c hc => ?_⟩
  rw [join_eq, tl_join] at hc
  refine joinL_all (s := tl ",") (by decide +kernel) _ (fun q hq => ?_) c hc
  obtain ⟨y, hy, rfl⟩ := List.mem_map.mp hq
  have ok : ∀ y ∈ A ++ p :: B, low y := fun y hy => (part_tx hz (by rw [e]; exact hy)).w
  rcases List.mem_append.mp hy with h | h
  · exact ok y (List.mem_append_left _ h)
  · obtain rfl | h := List.mem_cons.mp h
    · exact lw
    · exact ok y (List.mem_append_right _ (List.mem_cons_of_mem _ h))
end KQ
set_option Elab.async false
set_option linter.all false
set_option maxRecDepth 100000
namespace KQ
open PySem PySem.Spec PyProof.Rows L2 Evl Kc Kz Kx Tr Mg K23 K22 K27 K24 KA KB KF TL
open KP (sh_low tl_app)
abbrev st9 (z : Str) (n : Nat) (w : Int) (c4 c5 c6 c7 c8 : Option AV) : S := [some (.pot true), some (.dat (.str z)), some (.dat (.int (n : Int))), some (.dat (.int w)), c4, c5, c6, c7, c8]
def Fine (z y : Str) : Prop := y.length ≤ z.length + 9 ∧ low y
theorem len_to (z : Str) (n : Nat) : (cutS z none (some (n : Int))).length ≤ n ∧ (cutS z none (some (n : Int))).length + (cutS z (some (n : Int)) none).length = z.length ∧ (cutS z (some ((n : Int) + 1)) none).length ≤ (cutS z (some (n : Int)) none).length := by
  have a := tl_to z n
  have b := tl_from z n
  have c := tl_from z (n + 1)
  have e : ((n + 1 : Nat) : Int) = (n : Int) + 1 := rfl
  rw [e] at c
  rw [len_tl, len_tl (cutS z (some (n : Int)) none), len_tl (cutS z (some ((n : Int) + 1)) none), a, b, c, len_tl z]
  refine ⟨List.length_take_le _ _, ?_, ?_⟩
  · rw [← List.length_append, List.take_append_drop]
  · simp only [List.length_drop]
    omega
theorem low_to {z : Str} (h : low z) (n : Nat) : low (cutS z none (some (n : Int))) ∧ low (cutS z (some (n : Int)) none) ∧ low (cutS z (some ((n : Int) + 1)) none) := by
  refine ⟨fun c hc => ?_, fun c hc => ?_, fun c hc => ?_⟩
  · rw [tl_to] at hc
    exact h c (List.mem_of_mem_take hc)
  · rw [tl_from] at hc
    exact h c (List.mem_of_mem_drop hc)
  · rw [show (n : Int) + 1 = ((n + 1 : Nat) : Int) from rfl, tl_from] at hc
    exact h c (List.mem_of_mem_drop hc)
section
variable {z o : Str} {n : Nat} {w : Int} {k : AV → Prop} {x : KX} {c5 c6 c7 c8 : Option AV}
abbrev R0 : FS := (sRet (f2 gAdd (f2 gAdd (fSl (fVar 1) oNone (oSome (fVar 2))) (fVar 4)) (fSl (fVar 1) (oSome (fVar 2)) oNone)))
abbrev R1 : FS := (sRet (f2 gAdd (fSl (fVar 1) oNone (oSome (fVar 2))) (fSl (fVar 1) (oSome (f2 gAdd (fVar 2) (fC (.dat (.int (1)))))) oNone)))
abbrev R2 : FS := (sRet (f2 gAdd (f2 gAdd (fSl (fVar 1) oNone (oSome (fVar 2))) (fVar 4)) (fSl (fVar 1) (oSome (f2 gAdd (fVar 2) (fC (.dat (.int (1)))))) oNone)))
theorem r0_run (hz : Tx z) (ho : o.length = 1) (lo : low o) (hk : ∀ y, Fine z y → k (.dat (.str y))) : R0 (st9 z n w (some (.dat (.str o))) c5 c6 c7 c8) (Ok k) x := by
  have big : 1000 ≤ sizeLine := by decide
  have l := hz.l
  obtain ⟨l1, l2, l3⟩ := len_to z n
  obtain ⟨w1, w2, w3⟩ := low_to hz.w n
  refine ⟨by omega, (show _ + o.length ≤ sizeLine by omega), by omega, (show (cutS z none (some (n : Int)) ++ o).length + _ ≤ sizeLine by rw [app_len]; omega), hk _ ⟨?_, low_app (low_app w1 lo) w2⟩⟩
  rw [app_len, app_len]
  omega
theorem r1_run (hz : Tx z) (hk : ∀ y, Fine z y → k (.dat (.str y))) : R1 (st9 z n w (some (.dat (.str o))) c5 c6 c7 c8) (Ok k) x := by
  have big : 1000 ≤ sizeLine := by decide
  have l := hz.l
  obtain ⟨l1, l2, l3⟩ := len_to z n
  obtain ⟨w1, w2, w3⟩ := low_to hz.w n
  refine ⟨by omega, by omega, (show (cutS z none (some (n : Int))).length + (cutS z (some ((n : Int) + 1)) none).length ≤ sizeLine by omega), hk _ ⟨?_, low_app w1 w3⟩⟩
  rw [app_len]
  omega
theorem r2_run (hz : Tx z) (ho : o.length = 1) (lo : low o) (hk : ∀ y, Fine z y → k (.dat (.str y))) : R2 (st9 z n w (some (.dat (.str o))) c5 c6 c7 c8) (Ok k) x := by
  have big : 1000 ≤ sizeLine := by decide
  have l := hz.l
  obtain ⟨l1, l2, l3⟩ := len_to z n
  obtain ⟨w1, w2, w3⟩ := low_to hz.w n
  refine ⟨by omega, (show _ + o.length ≤ sizeLine by omega), by omega, (show (cutS z none (some (n : Int)) ++ o).length + (cutS z (some ((n : Int) + 1)) none).length ≤ sizeLine by rw [app_len]; omega), hk _ ⟨?_, low_app (low_app w1 lo) w3⟩⟩
  rw [app_len, app_len]
  omega
def W10 (p : Str) : List Str := ["", "0" ++ p, "-" ++ p, "-0", "00", p ++ "abcdefgh", "+1", Txt.upper p, "1_0", " " ++ p]
theorem w10_ok {p : Str} (h : low p) : ∀ y ∈ W10 p, y.length ≤ p.length + 8 ∧ low y := fun y hy => by
  have c1 : ∀ y ∈ (["", "0", "-", "-0", "00", "abcdefgh", "+1", "1_0", " "] : List Str), y.length ≤ 8 ∧ low y := by
    intro y hy
    have : ∀ y ∈ (["", "0", "-", "-0", "00", "abcdefgh", "+1", "1_0", " "] : List Str), y.length ≤ 8 ∧ (tl y).all (fun c => decide (c < 128)) = true := by decide +kernel
    obtain ⟨a, b⟩ := this y hy
    exact ⟨a, fun c hc => of_decide_eq_true (List.all_eq_true.mp b c hc)⟩
  unfold W10 at hy
  simp only [List.mem_cons, List.not_mem_nil, or_false] at hy
  rcases hy with rfl | rfl | rfl | rfl | rfl | rfl | rfl | rfl | rfl | rfl
  · obtain ⟨a, b⟩ := c1 "" (by simp); exact ⟨by omega, b⟩
  · obtain ⟨a, b⟩ := c1 "0" (by simp); exact ⟨by rw [app_len]; omega, low_app b h⟩
  · obtain ⟨a, b⟩ := c1 "-" (by simp); exact ⟨by rw [app_len]; omega, low_app b h⟩
  · obtain ⟨a, b⟩ := c1 "-0" (by simp); exact ⟨by omega, b⟩
  · obtain ⟨a, b⟩ := c1 "00" (by simp); exact ⟨by omega, b⟩
  · obtain ⟨a, b⟩ := c1 "abcdefgh" (by simp); exact ⟨by rw [app_len]; omega, low_app h b⟩
  · obtain ⟨a, b⟩ := c1 "+1" (by simp); exact ⟨by omega, b⟩
  · obtain ⟨a, b⟩ := upper_low h; exact ⟨by omega, b⟩
  · obtain ⟨a, b⟩ := c1 "1_0" (by simp); exact ⟨by omega, b⟩
  · obtain ⟨a, b⟩ := c1 " " (by simp); exact ⟨by rw [app_len]; omega, low_app b h⟩
abbrev R3 : FS := (sRet (fMeth gJoin (fC (.dat (.str ","))) (fCons (f2 gAdd (f2 gAdd (fSl (fVar 5) oNone (oSome (fVar 6))) (fDisp .newl (fCons (f2 gIx (fVar 8) (fCall 2 F_draw (fCons (fVar 0) (fCons (fC (.dat (.int (10)))) fNil)))) fNil))) (fSl (fVar 5) (oSome (f2 gAdd (fVar 6) (fC (.dat (.int (1)))))) oNone)) fNil)))
theorem r3_run {m : Nat} {p : Str} {c7 : Option AV} (hz : Tx z) (hp : (Txt.split z ",")[m]? = some p) (hk : ∀ y, Fine z y → k (.dat (.str y))) : R3 (st9 z n w (some (.dat (.str o))) (some (.own false (.list (sts (Txt.split z ","))))) (some (.dat (.int (m : Int)))) c7 (some (.own false (.list (sts (W10 p)))))) (Ok k) x := by
  have big : 1000 ≤ sizeLine := by decide
  have pl := parts_len hz
  have ml : m < (Txt.split z ",").length := (List.getElem?_eq_some_iff.mp hp).1
  have tp := part_tx hz (List.mem_of_getElem? hp)
  have ec : Txt.split z "," = (Txt.split z ",").take m ++ p :: (Txt.split z ",").drop (m + 1) := by
    have e : (Txt.split z ",").drop m = p :: (Txt.split z ",").drop (m + 1) := by
      rw [List.drop_eq_getElem_cons ml]
      rw [List.getElem?_eq_getElem ml] at hp
      rw [Option.some.inj hp]
    rw [← e, List.take_append_drop]
  have sl : (sts (Txt.split z ",")).length = (Txt.split z ",").length := List.length_map _
  have d1 : Tr.cutD (sts (Txt.split z ",")) none (some (m : Int)) = sts ((Txt.split z ",").take m) := (cut_to (by omega)).trans List.map_take.symm
  have d2 : Tr.cutD (sts (Txt.split z ",")) (some ((m : Int) + 1)) none = sts ((Txt.split z ",").drop (m + 1)) := (cut_from (n := m + 1) (by omega)).trans List.map_drop.symm
  refine ⟨⟨_, rfl⟩, Nat.le_refl 1, rfl, 10, rfl, by decide, by decide, fun t t0 t1 => ⟨.inl rfl, ?_⟩⟩
  obtain ⟨q, v, rfl, hv, e⟩ := atI_get (xs := sts (W10 p)) t0 t1
  rw [List.getElem?_map] at hv
  obtain ⟨y, hy, rfl⟩ := Option.map_eq_some_iff.mp hv
  obtain ⟨yl, yw⟩ := w10_ok tp.w y (List.mem_of_getElem? hy)
  obtain ⟨j1, j2⟩ := swap_part hz ec yl yw
  have lt : ((Txt.split z ",").take m).length ≤ 302 := Nat.le_trans (List.length_take_le' _ _) pl
  have lr : ((Txt.split z ",").drop (m + 1)).length ≤ 302 := by rw [List.length_drop]; omega
  have whole : sts ((Txt.split z ",").take m) ++ [PyData.str y] ++ sts ((Txt.split z ",").drop (m + 1)) = sts ((Txt.split z ",").take m ++ y :: (Txt.split z ",").drop (m + 1)) := by
    rw [sts_app, List.append_assoc]
    rfl
  refine ⟨.str y, e, sz (by simp), ?_, ?_, ?_⟩
  · show (Tr.cutD (sts (Txt.split z ",")) none (some (m : Int))).length + 1 ≤ sizeLine
    rw [d1, List.length_map]
    omega
  · show (Tr.cutD (sts (Txt.split z ",")) none (some (m : Int)) ++ [PyData.str y]).length + (Tr.cutD (sts (Txt.split z ",")) (some ((m : Int) + 1)) none).length ≤ sizeLine
    rw [d1, d2, List.length_append, List.length_map, List.length_map]
    show _ + 1 + _ ≤ _
    omega
  · show strsK (Tr.cutD (sts (Txt.split z ",")) none (some (m : Int)) ++ [PyData.str y] ++ Tr.cutD (sts (Txt.split z ",")) (some ((m : Int) + 1)) none) _
    rw [d1, d2, whole]
    have ok : ∀ s ∈ (Txt.split z ",").take m ++ y :: (Txt.split z ",").drop (m + 1), s.length ≤ 308 := fun s hs => by
      rcases List.mem_append.mp hs with h | h
      · exact Nat.le_trans (part_tx hz (List.mem_of_mem_take h)).l (by decide)
      · obtain rfl | h := List.mem_cons.mp h
        · have := tp.l; omega
        · exact Nat.le_trans (part_tx hz (List.mem_of_mem_drop h)).l (by decide)
    refine strs_of ⟨?_, hk _ ⟨by omega, j2⟩⟩
    have s := KP.sum_le ok
    have len : ((Txt.split z ",").take m ++ y :: (Txt.split z ",").drop (m + 1)).length ≤ 605 := by
      rw [List.length_append, List.length_cons]
      omega
    have := Nat.mul_le_mul_right 308 len
    show _ + _ * 1 ≤ _
    omega
end
abbrev SomeW : FE := (fDisp .newl (fCons (fC (.dat (.str ""))) (fCons (f2 gAdd (fC (.dat (.str "0"))) (fVar 7)) (fCons (f2 gAdd (fC (.dat (.str "-"))) (fVar 7)) (fCons (fC (.dat (.str "-0"))) (fCons (fC (.dat (.str "00"))) (fCons (f2 gAdd (fVar 7) (fC (.dat (.str "abcdefgh")))) (fCons (fC (.dat (.str "+1"))) (fCons (fUp (fVar 7)) (fCons (fC (.dat (.str "1_0"))) (fCons (f2 gAdd (fC (.dat (.str " "))) (fVar 7)) fNil)))))))))))
abbrev Way3 : FS := sCons (sSet 5 (fMeth gSplit (fVar 1) (fCons (fC (.dat (.str ","))) fNil))) (sCons (sSet 6 (fCall 2 F_draw (fCons (fVar 0) (fCons (fB (g1 gLen) (fCons (fVar 5) fNil)) fNil)))) (sCons (sSet 7 (f2 gIx (fVar 5) (fVar 6))) (sCons (sSet 8 SomeW) R3)))
theorem way3_run {z o : Str} {n : Nat} {w : Int} {k : AV → Prop} {x : KX} (hz : Tx z) (hk : ∀ y, Fine z y → k (.dat (.str y))) : Way3 (st9 z n w (some (.dat (.str o))) none none none none) (Ok k) x := by
  have big : 100000 ≤ sizeLine := by decide
  have zl := hz.l
  have pl := parts_len hz
  have p1 : 1 ≤ (Txt.split z ",").length := split_pos z ","
  have sl : (sts (Txt.split z ",")).length = (Txt.split z ",").length := List.length_map _
  refine ⟨⟨_, rfl⟩, rfl, (show z.length + 2 ≤ sizeLine by omega), ?_⟩
  refine pk (ρ := st9 z n w (some (.dat (.str o))) none none none none) (k := fun ρ => sCons (sSet 6 (fCall 2 F_draw (fCons (fVar 0) (fCons (fB (g1 gLen) (fCons (fVar 5) fNil)) fNil)))) (sCons (sSet 7 (f2 gIx (fVar 5) (fVar 6))) (sCons (sSet 8 SomeW) R3)) ρ (Ok k) x) (i := 5) (a := .own false (.list (sts (Txt.split z ",")))) (c := none) rfl .no rfl (fun _ => nofun) ?_
  refine ⟨Nat.le_refl 1, rfl, _, rfl, by rw [sl]; omega, by rw [sl]; omega, fun j j0 j1 => ⟨.inl rfl, ?_⟩⟩
  obtain ⟨m, v, rfl, hv, e⟩ := atI_get (xs := sts (Txt.split z ",")) j0 j1
  rw [List.getElem?_map] at hv
  obtain ⟨p, part_at, rfl⟩ := Option.map_eq_some_iff.mp hv
  have tp := part_tx hz (List.mem_of_getElem? part_at)
  have tl_ := tp.l
  refine pkd (ρ := st9 z n w (some (.dat (.str o))) (some (.own false (.list (sts (Txt.split z ","))))) none none none) (k := fun ρ => sCons (sSet 7 (f2 gIx (fVar 5) (fVar 6))) (sCons (sSet 8 SomeW) R3) ρ (Ok k) x) (i := 6) (c := none) rfl .no ?_
  refine ⟨.str p, e, ?_⟩
  refine pkd (ρ := st9 z n w (some (.dat (.str o))) (some (.own false (.list (sts (Txt.split z ","))))) (some (.dat (.int (m : Int)))) none none) (k := fun ρ => sCons (sSet 8 SomeW) R3 ρ (Ok k) x) (i := 7) (c := none) rfl .no ?_
  have g : ∀ a b : Str, a.length ≤ 300 → b.length ≤ 300 → a.length + b.length ≤ sizeLine := fun a b h1 h2 => by omega
  have s1 : ("0" : Str).length ≤ 300 := by decide
  have s2 : ("-" : Str).length ≤ 300 := by decide
  have s3 : ("abcdefgh" : Str).length ≤ 300 := by decide
  have s4 : (" " : Str).length ≤ 300 := by decide
  refine ⟨g _ _ s1 tl_, g _ _ s2 tl_, g _ _ tl_ s3, (show p.length ≤ 100000 by omega), g _ _ s4 tl_, sz (by simp), ?_⟩
  exact pk (ρ := st9 z n w (some (.dat (.str o))) (some (.own false (.list (sts (Txt.split z ","))))) (some (.dat (.int (m : Int)))) (some (.dat (.str p))) none) (k := fun ρ => R3 ρ (Ok k) x) (i := 8) (a := .own false (.list (sts (W10 p)))) (c := none) rfl .no rfl (fun _ => nofun) (r3_run hz part_at hk)
theorem imp_bent : ∀ as k x, as.length = 2 → F_bent17 as k x → KQ.fb_law_bent (start0 9 as) (Ok k) fun c _ => x c := by
  rintro _ k x _ ⟨z, rfl, hz, hk⟩
  have zl := hz.l
  have big : 1000 ≤ sizeLine := by decide
  refine ⟨(show z.length ≤ sizeLine by omega), Nat.le_refl 1, rfl, _, rfl, (show 0 < (z.length : Int) + 1 by omega), (show (z.length : Int) + 1 < 1073741824 by omega), fun j j0 j1 => ⟨.inl rfl, ?_⟩⟩
  obtain ⟨n, rfl⟩ : ∃ n : Nat, j = n := ⟨j.toNat, by omega⟩
  refine ⟨Nat.le_refl 1, rfl, 4, rfl, by decide, by decide, fun w w0 w1 => ⟨.inl rfl, ?_⟩⟩
  refine ⟨Nat.le_refl 1, rfl, 14, rfl, by decide, by decide, fun q q0 q1 => ⟨.inl rfl, ?_⟩⟩
  obtain ⟨i, c, rfl, hc, e⟩ := atI_get (xs := ("az09,- +\nAZ.:|" : Str).cps.toList) q0 (by show q < 14; exact q1)
  have lc : low ⟨#[c]⟩ := fun d hd => by
    rw [List.mem_singleton.mp (show d ∈ [c] from hd)]
    have all : ∀ c ∈ ("az09,- +\nAZ.:|" : Str).cps.toList, c < 128 := by decide +kernel
    exact all c (List.mem_of_getElem? hc)
  have hk' : ∀ y, Fine z y → k (.dat (.str y)) := fun y f => hk y f.1 f.2
  refine ⟨by decide, c, e, ?_⟩
  have go : sCons (sIf (fTest (f2 gEq (fVar 3) (fC (.dat (.int (0)))))) R0 sNil) (sCons (sIf (fTest (f2 gEq (fVar 3) (fC (.dat (.int (1)))))) R1 sNil) (sCons (sIf (fTest (f2 gEq (fVar 3) (fC (.dat (.int (2)))))) R2 sNil) Way3)) (st9 z n w (some (.dat (.str ⟨#[c]⟩))) none none none none) (Ok k) fun c _ => x c := by
    refine ⟨⟨sh_int _, sh_int _⟩, ifs (fun _ => r0_run hz rfl lc hk') fun _ => ?_⟩
    refine ⟨⟨sh_int _, sh_int _⟩, ifs (fun _ => r1_run hz hk') fun _ => ?_⟩
    refine ⟨⟨sh_int _, sh_int _⟩, ifs (fun _ => r2_run hz rfl lc hk') fun _ => ?_⟩
    exact way3_run hz hk'
  exact go
end KQ
set_option Elab.async false
set_option linter.all false
set_option maxRecDepth 100000
namespace KQ
open PySem PySem.Spec PyProof.Rows L2 Evl Kc Kz Kx Tr Mg K23 K22 K27 K24 KA KB KF TL
theorem imp_met17 (C DT : Addr) : ∀ as k x, as.length = 2 → F_met17 C as k x → KQ.fb_law_met C DT (start0 5 as) (Ok k) fun c _ => x c := by
  rintro _ k x _ ⟨rows, d, rfl, hr, ht, hs, hk⟩
  have no : ∀ n : Int, metV rows d = .list [.str "line", .int n] → k (.own false (.list [.str "line", .int n])) := fun n e => hk _ e
  have other : ∀ n : Int, k (.own false (.list [.str "line", .int n])) → _ := fun n h => h
  refine ⟨sz (by simp), ?_⟩
  refine ⟨Nat.zero_le 1, rfl, rows, d, rfl, hr, ht, ?_⟩
  cases e : isStr d with
  | false =>
    have m : metV rows d = .list [.str "line", .int 0] := by
      cases d <;> first | rfl | cases e
    refine .inr ⟨rfl, .inl rfl, rfl, fun a dd => ?_⟩
    exact ⟨⟨rfl, rfl, rfl⟩, ⟨rfl, rfl, rfl⟩, ⟨rfl, rfl, rfl⟩, .int 0, rfl, sz (by simp), no 0 m⟩
  | true =>
    obtain ⟨z, rfl⟩ : ∃ z, d = .str z := by
      cases d <;> first | exact ⟨_, rfl⟩ | cases e
    have h := hs z rfl
    refine .inl ⟨z, rfl, h, ?_⟩
    cases v : versionB rows (rowV z) with
    | true =>
      have m : metV rows (.str z) = .list [.str "read", rowV z] := if_pos v
      exact .inl ⟨rfl, .inl rfl, sz (by simp), hk _ m⟩
    | false =>
      have m : metV rows (.str z) = .list [.str "line", .int 1] := if_neg (by rw [v]; decide)
      refine .inr ⟨rfl, .inl rfl, rfl, fun a dd => ?_⟩
      exact ⟨⟨rfl, rfl, rfl⟩, ⟨rfl, rfl, rfl⟩, ⟨rfl, rfl, rfl⟩, .int 1, rfl, sz (by simp), no 1 m⟩
end KQ
set_option Elab.async false
set_option linter.all false
set_option maxRecDepth 100000
namespace KQ
open PySem PySem.Spec PyProof.Rows L2 Evl Kc Kz Kx Tr Mg K23 K22 K27 K24 KA KB KF TL
open PySem.NumText (digitsVal AllDigits)
open KP (digs digs_mem digs_top tl_digs revD_len)
theorem tl_numS (i : Int) : tl (numS i) = if i < 0 then 45 :: tl (digs i.natAbs) else tl (digs i.natAbs) := by
  rw [numS_eq]
  unfold KP.numT
  split
  · exact KP.tl_neg _
  · rfl
theorem of_digs (n : Nat) : digitsOf (tl (digs n)) = tl (digs n) := by
  obtain ⟨c, cs, e, l, _⟩ := digs_top n
  rw [e]
  exact of_ne (by omega)
theorem digs_zero : tl (digs 0) = [48] := by rw [tl_digs, KP.revD_small (by decide)]; rfl
theorem all_dig (n : Nat) : (tl (digs n)).all isDig = true := List.all_eq_true.mpr fun c hc => decide_eq_true (digs_mem n c hc)
theorem num_good (i : Int) : numB (numS i) = true ∧ numV (numS i) = i := by
  have t := tl_numS i
  obtain ⟨c, cs, e, l, u, p⟩ := digs_top i.natAbs
  have ne : (tl (digs i.natAbs)).isEmpty = false := by rw [e]; rfl
  by_cases h : i < 0
  · rw [if_pos h] at t
    have d : digitsOf (tl (numS i)) = tl (digs i.natAbs) := by rw [t]; rfl
    have hd : (tl (digs i.natAbs)).head? ≠ some 48 := by
      rw [e]
      exact fun q => p (by omega) (Option.some.inj q)
    refine ⟨?_, ?_⟩
    · unfold numB
      rw [d, ne, all_dig, decide_eq_false hd]
      simp
    · unfold numV
      rw [d, t, digs_val]
      rw [if_pos (show (45 :: tl (digs i.natAbs)).head? = some 45 from rfl)]
      omega
  · rw [if_neg h] at t
    have d : digitsOf (tl (numS i)) = tl (digs i.natAbs) := by rw [t]; exact of_digs _
    have hd : decide (tl (digs i.natAbs) = [48]) || !decide ((tl (digs i.natAbs)).head? = some 48) := by
      by_cases z : i.natAbs = 0
      · rw [z, digs_zero]
        rfl
      · have : (tl (digs i.natAbs)).head? ≠ some 48 := by
          rw [e]
          exact fun q => p (by omega) (Option.some.inj q)
        rw [decide_eq_false this]
        simp
    refine ⟨?_, ?_⟩
    · unfold numB
      rw [d, t, ne, all_dig]
      exact hd
    · unfold numV
      rw [d, t, digs_val, e]
      rw [if_neg (fun q => by have := Option.some.inj q; omega)]
      omega
theorem read_val {n : Nat} {kd : Str} {d : D} (h : ValOk n kd d) : readV (valT d) = d := by
  cases d <;> first | exact h.elim | skip
  · rename_i i
    show (if numB (numS i) = true then PyData.int (numV (numS i)) else .str (numS i)) = _
    rw [if_pos (num_good i).1, (num_good i).2]
  · rename_i z
    show (if numB z = true then PyData.int (numV z) else .str z) = _
    rw [if_neg (by rw [word_no h.2]; decide)]
/-- the signs of a value -/
theorem val_signs {n : Nat} {kd : Str} {d : D} (h : ValOk n kd d) : ∀ c ∈ tl (valT d), 45 ≤ c ∧ c < 128 := by
  cases d <;> first | exact h.elim | skip
  · rename_i i
    show ∀ c ∈ tl (numS i), _
    rw [numS_eq]
    exact fun c hc => by have := KP.numT_mem i c hc; omega
  · rename_i z
    obtain ⟨_, _, _, _, _, lo⟩ := KP.word_top h.2
    exact fun c hc => by have := lo c hc; omega
theorem num_len {m : Nat} {i : Int} (h : i.natAbs < 10 ^ (m + 1)) : (numS i).length ≤ m + 2 := by
  rw [numS_eq]
  have l : (digs i.natAbs).length ≤ m + 1 := by
    rw [len_tl, tl_digs, List.length_map, List.length_reverse]
    exact revD_len m _ h
  unfold KP.numT
  split
  · rw [app_len]
    show 1 + _ ≤ _
    omega
  · omega
theorem split_ver {n : Nat} {rows : List Mg.Row} {ds : List D} (vo : VerOk n rows ds) (ne : ds ≠ []) : Txt.split (verT ds) "," = ds.map valT := by
  refine split_join (s := 44) (S := []) rfl (by decide +kernel) (fun e => ne (List.map_eq_nil_iff.mp e)) fun p hp z => ?_
  obtain ⟨d, hd, rfl⟩ := List.mem_map.mp hp
  obtain ⟨i, hi⟩ := List.getElem?_of_mem hd
  obtain ⟨r, _, v⟩ := KP.ver_val vo hi
  have := val_signs v 44 z
  omega
theorem row_ver {n : Nat} {rows : List Mg.Row} {ds : List D} (vo : VerOk n rows ds) (ne : ds ≠ []) : rowV (verT ds) = .tuple ds := by
  unfold rowV
  rw [split_ver vo ne, List.map_map]
  congr 1
  conv => rhs; rw [← List.map_id ds]
  refine List.map_congr_left fun d hd => ?_
  obtain ⟨i, hi⟩ := List.getElem?_of_mem hd
  obtain ⟨r, _, v⟩ := KP.ver_val vo hi
  exact read_val v
theorem sum_ver {n m : Nat} (hm : 2 ^ n ≤ 10 ^ (m + 1)) : ∀ {rows : List Mg.Row} {ds : List D}, VerOk n rows ds → (∀ r ∈ rows, three r.2) → (ds.map fun d => (valT d).length).sum ≤ (rows.filter fun r => !isC r.2).length * 8 + (rows.filter fun r => isC r.2).length * (m + 2)
  | _, _, .nil, _ => Nat.zero_le _
  | _, _, .cons (r := r) (d := d) (rs := rs) (ds := ds) h t, th => by
    have ih := sum_ver hm t fun r hr => th r (List.mem_cons_of_mem _ hr)
    rw [List.map_cons, List.sum_cons, List.filter_cons, List.filter_cons]
    cases d <;> first | exact h.elim | skip
    · rename_i i
      have c : isC r.2 = true := decide_eq_true h.1
      have l : (numS i).length ≤ m + 2 := num_len (Nat.lt_of_lt_of_le h.2 hm)
      rw [c]
      show (numS i).length + _ ≤ _ * 8 + ((rs.filter fun r => isC r.2).length + 1) * (m + 2)
      rw [Nat.succ_mul]
      simp only [Bool.not_true, if_false, Bool.false_eq_true]
      omega
    · rename_i z
      have c : isC r.2 = false := decide_eq_false h.1
      have l := (word_parts h.2).2.1
      rw [c]
      show z.length + _ ≤ ((rs.filter fun r => !isC r.2).length + 1) * 8 + _
      rw [Nat.succ_mul]
      simp only [if_false, Bool.false_eq_true]
      omega
theorem ver_len {n m : Nat} (hm : 2 ^ n ≤ 10 ^ (m + 1)) {rows : List Mg.Row} {ds : List D} {a b : Nat} (ok : RowsOk rows a b) (ha : a ≤ 4) (hb : b ≤ 4) (vo : VerOk n rows ds) (ne : ds ≠ []) : (verT ds).length ≤ 40 + 4 * (m + 2) ∧ low (verT ds) := by
  have s := sum_ver hm vo ok.kd
  rw [ok.cs, ok.ls] at s
  have l := joinL_len (tl ",") ((ds.map valT).map tl) (by simpa using ne)
  have z : (joinL (tl ",") ((ds.map valT).map tl)).length = (verT ds).length := by
    show _ = (Txt.join "," (ds.map valT)).length
    rw [← tl_join, ← join_eq, ← len_tl]
  have e : ((ds.map valT).map tl).map List.length = ds.map fun d => (valT d).length := by
    rw [List.map_map (l := ds), List.map_map (l := ds)]
    exact List.map_congr_left fun d _ => (len_tl (valT d)).symm
  rw [e, z, List.length_map, List.length_map, ← vo.len, ok.len] at l
  have one : (tl ",").length = 1 := by decide +kernel
  rw [one, Nat.mul_one] at l
  have m1 : a * 8 ≤ 4 * 8 := Nat.mul_le_mul_right _ ha
  have m2 : b * (m + 2) ≤ 4 * (m + 2) := Nat.mul_le_mul_right _ hb
  refine ⟨by omega, fun c hc => ?_⟩
  have hc : c ∈ tl (Txt.join "," (ds.map valT)) := hc
  rw [join_eq, tl_join] at hc
  refine joinL_all (s := tl ",") (by decide +kernel) _ (fun q hq => ?_) c hc
  obtain ⟨y, hy, rfl⟩ := List.mem_map.mp hq
  obtain ⟨d, hd, rfl⟩ := List.mem_map.mp hy
  obtain ⟨i, hi⟩ := List.getElem?_of_mem hd
  obtain ⟨r, _, v⟩ := KP.ver_val vo hi
  exact fun c hc => (val_signs v c hc).2
end KQ
set_option Elab.async false
set_option linter.all false
set_option maxRecDepth 100000
namespace KQ
open PySem PySem.Spec PyProof.Rows L2 Evl Kc Kz Kx Tr Mg K23 K22 K27 K24 KA KB KF TL
open PySem.NumText (digitsVal AllDigits)
theorem fl_big {i : Int} (h : i.natAbs < 10 ^ 300) : FlOk (.int i) := fl_val (n := 1000) (k := "counter") (by decide) ⟨rfl, Nat.lt_trans h (by decide +kernel)⟩
theorem el_text {z : Str} (h : z.length ≤ 300) (lw : low z) : ElOk (.str z) := by
  refine ⟨SeqAt.canLay_of_shaped (KP.sh_low lw), by simp [PyData.depth], by simp [PyData.showable], ?_, trivial, nofun⟩
  simp only [wt]
  omega
theorem all_of {p : Str} (e : numB p = true) : AllDigits (digitsOf (tl p)) := by
  unfold numB at e
  have e2 := (Bool.and_eq_true_iff.mp (Bool.and_eq_true_iff.mp e).1).2
  intro c hc
  have : 48 ≤ c ∧ c < 58 := of_decide_eq_true (List.all_eq_true.mp e2 c hc)
  exact ⟨by omega, by omega⟩
theorem fl_value {kd : Str} {p : Str} (hp : Tx p) (v : valueB kd (readV p) = true) : FlOk (readV p) := by
  unfold readV at v ⊢
  by_cases e : numB p = true
  · rw [if_pos e]
    exact fl_big (numV_small hp (all_of e))
  · rw [if_neg e] at v ⊢
    unfold valueB at v
    by_cases c : kd = "counter"
    · rw [if_pos c] at v
      cases v
    · rw [if_neg c] at v
      exact fl_val (n := 100) (k := kd) (by decide) ⟨c, v⟩
theorem values_mem : ∀ {rows : List Mg.Row} {ds : List D} {d : D}, valuesB rows ds = true → d ∈ ds → ∃ r ∈ rows, valueB r.2 d = true
  | [], [], _, _, h => nomatch h
  | [], _ :: _, _, v, _ => nomatch v
  | _ :: _, [], _, _, h => nomatch h
  | r :: rs, e :: ds, d, v, h => by
    obtain ⟨v1, v2⟩ := Bool.and_eq_true_iff.mp (show (valueB r.2 e && valuesB rs ds) = true from v)
    obtain rfl | h := List.mem_cons.mp h
    · exact ⟨r, List.mem_cons_self, v1⟩
    · obtain ⟨q, hq, w⟩ := values_mem v2 h
      exact ⟨q, List.mem_cons_of_mem _ hq, w⟩
theorem el_row {rows : List Mg.Row} {z : Str} (hz : Tx z) (hr : rows.length ≤ 8) (v : versionB rows (rowV z) = true) : ElOk (rowV z) := by
  have v : valuesB rows ((Txt.split z ",").map readV) = true := v
  have l : rows.length = ((Txt.split z ",").map readV).length := by
    by_cases e : rows.length = ((Txt.split z ",").map readV).length
    · exact e
    · rw [values_len e] at v
      cases v
  refine el_tup (by omega) fun d hd => ?_
  obtain ⟨r, _, w⟩ := values_mem v hd
  obtain ⟨p, hp, rfl⟩ := List.mem_map.mp hd
  exact fl_value (part_tx hz hp) w
theorem show_pair {d e : D} (h1 : ElOk d) (h2 : ElOk e) : ShowX (.list [d, e]) := lay_show (lay_list (by simp) fun c hc => by
  obtain rfl | hc := List.mem_cons.mp hc
  · exact h1
  · rw [List.mem_singleton.mp hc]
    exact h2)
theorem el_word {z : Str} (l : z.length ≤ 12) (h : PyData.canLay0 (.str z) = true) : ElOk (.str z) := el_fl rfl (fl_str l h)
theorem el_one (i : Int) (h : i.natAbs < 2 ^ 100) : ElOk (.int i) := el_fl rfl (fl_int i h)
theorem line_show (i : Int) (h : i.natAbs < 2 ^ 100) : ShowX (.list [.str "line", .int i]) := show_pair (el_word (by decide) (by decide +kernel)) (el_one i h)
theorem met_show {rows : List Mg.Row} {z : Str} (hz : Tx z) (hr : rows.length ≤ 8) : ShowX (metV rows (.str z)) := by
  unfold metV
  by_cases v : versionB rows (rowV z) = true
  · dsimp only
    rw [if_pos v]
    exact show_pair (el_word (by decide) (by decide +kernel)) (el_row hz hr v)
  · dsimp only
    rw [if_neg v]
    exact line_show 1 (by decide)
def oddL (ds : List D) : List D := [.list ds, .tuple (cutD ds (some 1) none), .none, .tuple (ds ++ [.str "a"])]
theorem kept_val {n m : Nat} {kd : Str} {d : D} (h : ValOk n kd d) : keptOk (m + 1) d := by
  cases d <;> first | exact h.elim | exact trivial
theorem odd_ok {n : Nat} (hn : n ≤ 1900) {rows : List Mg.Row} {ds : List D} {d : D} (hr : rows.length ≤ 8) (vo : VerOk n rows ds) (ne : ds ≠ []) (h : d ∈ oddL ds) : versionB rows d = false ∧ Short d ∧ keptOk 5 d ∧ ShowX d := by
  have dl : ds.length ≤ 8 := by rw [← vo.len]; exact hr
  have fl : ∀ c ∈ ds, FlOk c := fun c hc => by
    obtain ⟨i, hi⟩ := List.getElem?_of_mem hc
    obtain ⟨r, _, v⟩ := KP.ver_val vo hi
    exact fl_val hn v
  have kp : ∀ c ∈ ds, keptOk 4 c := fun c hc => by
    obtain ⟨i, hi⟩ := List.getElem?_of_mem hc
    obtain ⟨r, _, v⟩ := KP.ver_val vo hi
    exact kept_val v
  have fa : FlOk (.str "a") := fl_str (by decide) (by decide +kernel)
  have d0 : 0 < ds.length := List.length_pos_iff.mpr ne
  have tup : ∀ us : List D, us.length ≤ 12 → (∀ c ∈ us, FlOk c) → (∀ c ∈ us, keptOk 4 c) → us.length ≠ ds.length → versionB rows (.tuple us) = false ∧ Short (.tuple us) ∧ keptOk 5 (.tuple us) ∧ ShowX (.tuple us) := fun us l f k e => by
    refine ⟨values_len (by rw [vo.len]; omega), ⟨fun c hc => (f c hc).2.2.2.2, fun ws q => by cases q; omega⟩, ⟨by omega, k⟩, ?_⟩
    exact lay_show (lay_tup (by omega) fun c hc => by
      obtain ⟨a, b, c', w, s⟩ := f c hc
      refine ⟨a, by omega, c', by omega, ?_, fun us e => ?_⟩
      · cases c <;> first | exact trivial | (simp [PyData.depth] at b)
      · subst e
        simp [PyData.depth] at b)
  obtain rfl | h := List.mem_cons.mp h
  · refine ⟨rfl, ⟨trivial, nofun⟩, ⟨by omega, kp⟩, ?_⟩
    exact lay_show (lay_list (by omega) fun c hc => by
      obtain ⟨i, hi⟩ := List.getElem?_of_mem hc
      obtain ⟨r, _, v⟩ := KP.ver_val vo hi
      exact el_fl (val_lay v).2.2.2 (fl_val hn v))
  obtain rfl | h := List.mem_cons.mp h
  · have e : cutD ds (some 1) none = ds.drop 1 := by
      cases ds with
      | nil => exact absurd rfl ne
      | cons c cs => exact cut_from (n := 1) (by rw [List.length_cons]; omega)
    rw [e]
    exact tup _ (by rw [List.length_drop]; omega) (fun c hc => fl c (List.mem_of_mem_drop hc)) (fun c hc => kp c (List.mem_of_mem_drop hc)) (by rw [List.length_drop]; omega)
  obtain rfl | h := List.mem_cons.mp h
  · exact ⟨rfl, ⟨trivial, nofun⟩, trivial, lay_show ⟨by simp [PyData.canLay0], by simp [PyData.depth], by simp [PyData.showable], by simp [wt]⟩⟩
  rw [List.mem_singleton.mp h]
  refine tup _ (by rw [List.length_append]; show _ + 1 ≤ _; omega) (fun c hc => ?_) (fun c hc => ?_) (by rw [List.length_append]; show _ + 1 ≠ _; omega)
  · rcases List.mem_append.mp hc with q | q
    · exact fl c q
    · rw [List.mem_singleton.mp q]
      exact fa
  · rcases List.mem_append.mp hc with q | q
    · exact kp c q
    · rw [List.mem_singleton.mp q]
      trivial
end KQ
set_option Elab.async false
set_option linter.all false
set_option maxRecDepth 100000
namespace KQ
open PySem PySem.Spec PyProof.Rows L2 Evl Kc Kz Kx Tr Mg K23 K22 K27 K24 KA KB KF TL
abbrev st (ns : List Int) (c1 c2 c3 c4 c5 c6 c7 c8 c9 c10 c11 c12 c13 c14 c15 c16 : Option AV) : S := [some (.scr ns), c1, c2, c3, c4, c5, c6, c7, c8, c9, c10, c11, c12, c13, c14, c15, c16, none, none]
/-- fields, and a version of them -/
structure Bs (rows : List Mg.Row) (ds : List D) (a b : Nat) : Prop where
  ok : RowsOk rows a b
  ha : a ≤ 4
  hb : b ≤ 4
  h0 : 0 < a + b
  vo : VerOk 100 rows ds
section
variable {rows : List Mg.Row} {ds : List D} {a b : Nat}
theorem Bs.r8 (B : Bs rows ds a b) : rows.length ≤ 8 := by
  have := B.ok.len; have := B.ha; have := B.hb; omega
theorem Bs.nr (B : Bs rows ds a b) : 0 < rows.length := by
  have := B.ok.len; have := B.h0; omega
theorem ver_ne {n : Nat} {ds gs : List D} (B : Bs rows ds a b) (vo : VerOk n rows gs) : gs ≠ [] := fun e => by
  have := B.nr
  have l := vo.len
  rw [e] at l
  exact absurd l (by show rows.length ≠ 0; omega)
theorem Bs.line (B : Bs rows ds a b) : (verT ds).length ≤ 172 ∧ low (verT ds) := ver_len (m := 31) (by decide +kernel) B.ok B.ha B.hb B.vo (ver_ne B B.vo)
theorem big_line {gs : List D} (B : Bs rows ds a b) (vo : VerOk 200 rows gs) : (verT gs).length ≤ 300 ∧ low (verT gs) := by
  have := ver_len (m := 60) (by decide +kernel) B.ok B.ha B.hb vo (ver_ne B vo)
  exact ⟨by omega, this.2⟩
end
theorem eqt_no {a : Str} {P Q : Prop} (h : Q) : if (true ^^ decide (a = a)) = true then P else Q := by
  rw [decide_eq_true rfl]
  exact h
theorem nObj {C : Addr} {fs : List (Str × D)} : Np (some (.obj C fs)) := fun b hb => by cases hb; rfl
section
variable {C DT DV : Addr} {ns : List Int} {rows : List Mg.Row} {ds gs : List D} {a b : Nat} {far : Int} {c1 c2 c3 c4 c5 c6 c7 c8 c9 c10 c11 c12 c13 c14 c15 c16 : Option AV} {R : FS} {N : EndsT} {x : KX}
abbrev T1 : FS := (sSet 2 (fCall 2 F_pot (fCons (fVar 0) (fCons (fVar 1) fNil))))
theorem t1_run {m : Nat} (k2 : Np c2) (hm : m < 100) (h : R (st ns (some (.dat (.int m))) (some (.pot false)) c3 c4 c5 c6 c7 c8 c9 c10 c11 c12 c13 c14 c15 c16) N x) :
    sCons T1 R (st ns (some (.dat (.int m))) c2 c3 c4 c5 c6 c7 c8 c9 c10 c11 c12 c13 c14 c15 c16) N x :=
  ⟨Nat.zero_le 1, rfl, ns, m, rfl, hm, .inl rfl, Np.put (a := .pot false) rfl k2 rfl (fun _ => nofun) h⟩
abbrev T2 : FS := (sSet 3 (fCall 1 F_somef (fCons (fVar 2) fNil)))
abbrev T3 (C : Addr) : FS := (sPar 4 5 (fCons (fMake C "rows" 1 F_init (fCons (fFrz 3) fNil)) (fCons (f2 gIx (fCall 4 F_rows (fCons (fVar 2) (fCons (fFrz 3) (fCons (fC (.dat (.int (1)))) (fCons (fCall 2 F_draw (fCons (fVar 2) (fCons (fC (.dat (.int (2)))) fNil))) fNil))))) (fC (.dat (.int (0))))) fNil)))
theorem t23_run (k3 : Np c3) (k4 : Np c4) (k5 : Np c5) (h : ∀ rows ds a b, Bs rows ds a b → R (st ns c1 (some (.pot false)) (some (.dat (flD rows))) (some (schO C rows)) (some (.dat (.tuple ds))) c6 c7 c8 c9 c10 c11 c12 c13 c14 c15 c16) N x) :
    sCons T2 (sCons (T3 C) R) (st ns c1 (some (.pot false)) c3 c4 c5 c6 c7 c8 c9 c10 c11 c12 c13 c14 c15 c16) N x := by
  refine ⟨Nat.le_refl 1, rfl, rfl, fun rows a b ok ha hb h0 => ⟨.inl rfl, ?_⟩⟩
  refine Np.put (a := .own false (flD rows)) rfl k3 rfl (fun _ => nofun) ?_
  have rl := ok.len
  refine ⟨rfl, rfl, rfl, rows, a, b, rfl, ok, by omega, by omega, h0, ?_⟩
  refine ⟨Nat.le_refl 1, rfl, 2, rfl, by decide, by decide, fun t t0 t1 => ⟨.inl rfl, ?_⟩⟩
  refine ⟨Nat.le_refl 1, rfl, rows, 1, t, rfl, by omega, ok.kd, by decide, by decide, fun vs v0 v1 vk => ⟨.inl rfl, ?_⟩⟩
  have e0 : vs[0]? = some (vs[0]'v0) := List.getElem?_eq_getElem _
  have at0 : atI (vs.map PyData.tuple) 0 = some (.tuple (vs[0]'v0)) := atI_nat (j := 0) (by rw [List.getElem?_map, e0]; rfl)
  have fin : Tr.putK 4 (schO C rows) (st ns c1 (some (.pot false)) (some (.dat (flD rows))) c4 c5 c6 c7 c8 c9 c10 c11 c12 c13 c14 c15 c16) fun ρ2 => Tr.putK 5 (.dat (.tuple (vs[0]'v0))) ρ2 fun ρ' => R ρ' N x :=
    Np.put rfl k4 rfl (fun _ => nofun) (Np.put rfl k5 rfl (fun _ => nofun) (h rows _ a b ⟨ok, ha, hb, h0, vk _ (List.getElem_mem v0)⟩))
  exact ⟨_, at0, fin⟩
abbrev T4 : FS := (sSet 6 (fCall 2 F_lineOf (fCons (fFrz 3) (fCons (fVar 5) fNil))))
theorem t4_run (B : Bs rows ds a b) (k6 : Np c6) (h : R (st ns c1 c2 (some (.dat (flD rows))) c4 (some (.dat (.tuple ds))) (some (.dat (.str (verT ds)))) c7 c8 c9 c10 c11 c12 c13 c14 c15 c16) N x) :
    sCons T4 R (st ns c1 c2 (some (.dat (flD rows))) c4 (some (.dat (.tuple ds))) c6 c7 c8 c9 c10 c11 c12 c13 c14 c15 c16) N x :=
  ⟨Nat.zero_le 1, rfl, rows, ds, rfl, B.r8, B.ok.kd, B.vo.up (by decide), .inl rfl, Np.put (a := .dat (.str (verT ds))) rfl k6 rfl (fun _ => nofun) h⟩
abbrev T5 (C DT DV : Addr) : FS := (sIf (fTest (f2 (gEqT true) (fB (g1 gReprX) (fCons (fDisp .newl (fCons (fCall 2 (F_verTX C DV) (fCons (fVar 4) (fCons (fVar 5) fNil))) (fCons (fCall 2 (F_readX C DT) (fCons (fVar 4) (fCons (fVar 6) fNil))) fNil))) fNil)) (fB (g1 gReprX) (fCons (fDisp .newl (fCons (fFrz 6) (fCons (fFrz 5) fNil))) fNil)))) (sRet (fC (.dat (.bool false)))) sNil)
abbrev T6 (C DT DV : Addr) : FS := (sIf (fTest (f2 (gEqT true) (fB (g1 gReprX) (fCons (fDisp .newl (fCons (fCall 2 (F_verTX C DV) (fSwp (fCons (fVar 5) (fCons (fVar 4) fNil)))) (fCons (fCall 2 (F_readX C DT) (fSwp (fCons (fVar 6) (fCons (fVar 4) fNil)))) fNil))) fNil)) (fB (g1 gReprX) (fCons (fDisp .newl (fCons (fFrz 6) (fCons (fFrz 5) fNil))) fNil)))) (sRet (fC (.dat (.bool false)))) sNil)
theorem two_show (B : Bs rows ds a b) : ShowX (.list [.str (verT ds), .tuple ds]) := by
  have l := B.line
  have r8 := B.r8
  have dl := B.vo.len
  exact show_pair (el_text (by omega) l.2) (el_tup (by omega) (ver_fl (by decide) B.vo))
theorem t5_run (B : Bs rows ds a b) (h : R (st ns c1 c2 c3 (some (schO C rows)) (some (.dat (.tuple ds))) (some (.dat (.str (verT ds)))) c7 c8 c9 c10 c11 c12 c13 c14 c15 c16) N x) :
    sCons (T5 C DT DV) R (st ns c1 c2 c3 (some (schO C rows)) (some (.dat (.tuple ds))) (some (.dat (.str (verT ds)))) c7 c8 c9 c10 c11 c12 c13 c14 c15 c16) N x := by
  have l := B.line
  have e := row_ver B.vo (ver_ne B B.vo)
  have v : versionB rows (rowV (verT ds)) = true := by rw [e]; exact values_of B.vo
  have sx := two_show B
  refine ⟨Nat.zero_le 1, rfl, rows, .tuple ds, rfl, B.r8, B.ok.kd, .inl ⟨ds, rfl, B.vo.up (by decide), .inl rfl, ?_⟩⟩
  refine ⟨Nat.zero_le 1, rfl, rows, .str (verT ds), rfl, B.r8, B.ok.kd, .inl ⟨verT ds, rfl, ⟨by omega, l.2⟩, .inl ⟨v, .inl rfl, ?_⟩⟩⟩
  rw [e]
  exact ⟨sz (by simp), sx, sz (by simp), sx, eqt_no h⟩
theorem t6_run (B : Bs rows ds a b) (h : R (st ns c1 c2 c3 (some (schO C rows)) (some (.dat (.tuple ds))) (some (.dat (.str (verT ds)))) c7 c8 c9 c10 c11 c12 c13 c14 c15 c16) N x) :
    sCons (T6 C DT DV) R (st ns c1 c2 c3 (some (schO C rows)) (some (.dat (.tuple ds))) (some (.dat (.str (verT ds)))) c7 c8 c9 c10 c11 c12 c13 c14 c15 c16) N x := by
  have l := B.line
  have e := row_ver B.vo (ver_ne B B.vo)
  have v : versionB rows (rowV (verT ds)) = true := by rw [e]; exact values_of B.vo
  have sx := two_show B
  refine ⟨Nat.zero_le 1, rfl, rows, .tuple ds, rfl, B.r8, B.ok.kd, .inl ⟨ds, rfl, B.vo.up (by decide), .inl rfl, ?_⟩⟩
  refine ⟨Nat.zero_le 1, rfl, rows, .str (verT ds), rfl, B.r8, B.ok.kd, .inl ⟨verT ds, rfl, ⟨by omega, l.2⟩, .inl ⟨v, .inl rfl, ?_⟩⟩⟩
  rw [e]
  exact ⟨sz (by simp), sx, sz (by simp), sx, eqt_no h⟩
abbrev T7 : FS := (sSet 7 (f2 gAdd (f2 (gI CPow fun i j => .int (i ^ j.toNat)) (fC (.dat (.int (10)))) (fC (.dat (.int (59))))) (fCall 2 F_draw (fCons (fVar 2) (fCons (f2 (gI CPow fun i j => .int (i ^ j.toNat)) (fC (.dat (.int (10)))) (fC (.dat (.int (9))))) fNil)))))
theorem t7_run (k7 : Np c7) (h : ∀ far : Int, far.natAbs < 2 ^ 200 → R (st ns c1 (some (.pot false)) c3 c4 c5 c6 (some (.dat (.int far))) c8 c9 c10 c11 c12 c13 c14 c15 c16) N x) :
    sCons T7 R (st ns c1 (some (.pot false)) c3 c4 c5 c6 c7 c8 c9 c10 c11 c12 c13 c14 c15 c16) N x := by
  refine ⟨⟨by decide, by decide⟩, ⟨⟨by decide, by decide⟩, Nat.le_refl 1, rfl, 10 ^ 9, rfl, by decide, by decide, fun i h0 h1 => ⟨.inl rfl, ?_⟩⟩⟩
  refine Np.put (a := .dat (.int ((10 : Int) ^ 59 + i))) rfl k7 rfl (fun _ => nofun) (h _ ?_)
  omega
abbrev GreatF : FE := (fIf (fTest (fCall 1 F_wholeA (fCons (fVar 18) fNil))) (f2 gIx (fDisp .newl (fCons (fFrz 7) (fCons (f1 gNeg (fVar 7)) fNil))) (fCall 2 F_draw (fCons (fVar 2) (fCons (fC (.dat (.int (2)))) fNil)))) (fFrz 18))
abbrev T8 : FS := (sSet 8 (fB (g1 gTuple) (fCons (fLc [18] (iSeq tK (fFrz 5)) (gN 18) fYes GreatF) fNil)))
theorem t8_run (B : Bs rows ds a b) (hf : far.natAbs < 2 ^ 200) (k8 : Np c8) (h : ∀ gs, VerOk 200 rows gs → R (st ns c1 (some (.pot false)) c3 c4 (some (.dat (.tuple ds))) c6 (some (.dat (.int far))) (some (.dat (.tuple gs))) c9 c10 c11 c12 c13 c14 c15 c16) N x) :
    sCons T8 R (st ns c1 (some (.pot false)) c3 c4 (some (.dat (.tuple ds))) c6 (some (.dat (.int far))) c8 c9 c10 c11 c12 c13 c14 c15 c16) N x := by
  have r8 := B.r8
  have dl := B.vo.len
  refine ⟨rfl, ?_⟩
  refine lcF_by (fun i acc ρ => ρ = st ns c1 (some (.pot false)) c3 c4 (some (.dat (.tuple ds))) c6 (some (.dat (.int far))) c8 c9 c10 c11 c12 c13 c14 c15 c16 ∧ VerOk 200 (rows.take i) acc) (fun i d acc ρ hd hI C' hC => ?_) (fun acc ρ hI => ?_) ⟨rfl, by rw [List.take_zero]; exact .nil⟩
  · obtain ⟨rfl, va⟩ := hI
    have hi := (List.getElem?_eq_some_iff.mp hd).1
    have hr : rows[i]? = some (rows[i]'(by omega)) := List.getElem?_eq_getElem _
    generalize rows[i]'(by omega) = r at hr
    obtain ⟨d', hd', v⟩ := B.vo.get hr
    rw [hd] at hd'
    cases hd'
    have al : acc.length < sizeLine := by
      have := va.len
      rw [List.length_take] at this
      exact small1000 (by omega)
    have fin : ∀ g, ValOk 200 r.2 g → C' (acc ++ [g]) (st ns c1 (some (.pot false)) c3 c4 (some (.dat (.tuple ds))) c6 (some (.dat (.int far))) c8 c9 c10 c11 c12 c13 c14 c15 c16) := fun g hg => hC _ _ ⟨rfl, by rw [take_succ hr]; exact ver_snoc va hg⟩
    refine pkd rfl .no ?_
    refine ⟨Nat.zero_le 1, rfl, d, rfl, .inl rfl, ifs (b := wholeB d) (fun w => ?_) fun w => ?_⟩
    · have c : r.2 = "counter" := by
        cases d <;> first | exact v.elim | exact v.1 | cases w
      refine ⟨sz (by simp), Nat.le_refl 1, rfl, 2, rfl, by decide, by decide, fun j j0 j1 => ⟨.inl rfl, ?_⟩⟩
      obtain rfl | rfl := (show j = 0 ∨ j = 1 by omega)
      · exact ⟨.int far, rfl, al, fin _ ⟨c, hf⟩⟩
      · exact ⟨.int (-far), rfl, al, fin _ ⟨c, by rw [Int.natAbs_neg]; exact hf⟩⟩
    · exact ⟨al, fin _ (v.up (by decide))⟩
  · obtain ⟨rfl, va⟩ := hI
    rw [List.take_of_length_le (by omega)] at va
    exact Np.put (a := .dat (.tuple acc)) rfl k8 rfl (fun _ => nofun) (h acc va)
abbrev T9 : FS := (sSet 9 (fCall 2 F_lineOf (fCons (fFrz 3) (fCons (fVar 8) fNil))))
theorem t9_run (B : Bs rows ds a b) (vo : VerOk 200 rows gs) (k9 : Np c9) (h : R (st ns c1 c2 (some (.dat (flD rows))) c4 c5 c6 c7 (some (.dat (.tuple gs))) (some (.dat (.str (verT gs)))) c10 c11 c12 c13 c14 c15 c16) N x) :
    sCons T9 R (st ns c1 c2 (some (.dat (flD rows))) c4 c5 c6 c7 (some (.dat (.tuple gs))) c9 c10 c11 c12 c13 c14 c15 c16) N x :=
  ⟨Nat.zero_le 1, rfl, rows, gs, rfl, B.r8, B.ok.kd, vo.up (by decide), .inl rfl, Np.put (a := .dat (.str (verT gs))) rfl k9 rfl (fun _ => nofun) h⟩
abbrev T10 (C DT DV : Addr) : FS := (sIf (fOr (fTest (f2 gNeZ (fCall 2 (F_readX C DT) (fCons (fVar 4) (fCons (fVar 9) fNil))) (fVar 8))) (fTest (f2 gNeZ (fCall 2 (F_verTX C DV) (fCons (fVar 4) (fCons (fVar 8) fNil))) (fVar 9)))) (sRet (fC (.dat (.bool false)))) sNil)
theorem nez_same {d : D} {k : Out → Prop} (h : SeqAt.shaped d = true) (hk : k (.val (.bool false))) : gNeZ d d k := by
  refine .inl (.inl (.inl ⟨⟨h, h⟩, ?_⟩))
  rw [show eqD d d = true from SeqAt.eqv_refl d (SeqAt.canLay_of_shaped h)]
  exact hk
theorem t10_run (B : Bs rows ds a b) (vo : VerOk 200 rows gs) (h : R (st ns c1 c2 c3 (some (schO C rows)) c5 c6 c7 (some (.dat (.tuple gs))) (some (.dat (.str (verT gs)))) c10 c11 c12 c13 c14 c15 c16) N x) :
    sCons (T10 C DT DV) R (st ns c1 c2 c3 (some (schO C rows)) c5 c6 c7 (some (.dat (.tuple gs))) (some (.dat (.str (verT gs)))) c10 c11 c12 c13 c14 c15 c16) N x := by
  have l := big_line B vo
  have e := row_ver vo (ver_ne B vo)
  have v : versionB rows (rowV (verT gs)) = true := by rw [e]; exact values_of vo
  refine ⟨Nat.zero_le 1, rfl, rows, .str (verT gs), rfl, B.r8, B.ok.kd, .inl ⟨verT gs, rfl, l, .inl ⟨v, .inl rfl, ?_⟩⟩⟩
  rw [e]
  refine nez_same (ver_sh vo) ?_
  exact ⟨Nat.zero_le 1, rfl, rows, .tuple gs, rfl, B.r8, B.ok.kd, .inl ⟨gs, rfl, vo.up (by decide), .inl rfl, nez_same (KP.sh_low l.2) h⟩⟩
end
end KQ
set_option Elab.async false
set_option linter.all false
set_option maxRecDepth 100000
namespace KQ
open PySem PySem.Spec PyProof.Rows L2 Evl Kc Kz Kx Tr Mg K23 K22 K27 K24 KA KB KF TL
section
variable {C DT DV : Addr} {ns : List Int} {rows : List Mg.Row} {ds gs : List D} {a b : Nat} {z : Str} {d : D} {c1 c2 c3 c4 c5 c6 c7 c8 c9 c10 c11 c12 c13 c14 c15 c16 : Option AV} {R : FS} {N : EndsT} {x : KX}
abbrev U1 : FS := (sSet 11 (fCall 2 F_bent17 (fCons (fVar 2) (fCons (fVar 6) fNil))))
abbrev U2 : FS := (sIf (fTest (f2 gEq (fCall 2 F_draw (fCons (fVar 2) (fCons (fC (.dat (.int (3)))) fNil))) (fC (.dat (.int (0)))))) (sSet 11 (fCall 2 F_bent17 (fCons (fVar 2) (fCons (fVar 11) fNil)))) sNil)
theorem u12_run (B : Bs rows ds a b) (k11 : Np c11) (h : ∀ z, Tx z → R (st ns c1 (some (.pot false)) c3 c4 c5 (some (.dat (.str (verT ds)))) c7 c8 c9 c10 (some (.dat (.str z))) c12 c13 c14 c15 c16) N x) :
    sCons U1 (sCons U2 R) (st ns c1 (some (.pot false)) c3 c4 c5 (some (.dat (.str (verT ds)))) c7 c8 c9 c10 c11 c12 c13 c14 c15 c16) N x := by
  have l := B.line
  refine ⟨Nat.le_refl 1, rfl, verT ds, rfl, ⟨by omega, l.2⟩, fun y yl yw => ⟨.inl rfl, ?_⟩⟩
  refine Np.put (a := .dat (.str y)) rfl k11 rfl (fun _ => nofun) ?_
  refine ⟨Nat.le_refl 1, rfl, 3, rfl, by decide, by decide, fun q q0 q1 => ⟨.inl rfl, ⟨sh_int _, sh_int _⟩, ifI (fun _ => ?_) fun _ => ?_⟩⟩
  · refine ⟨Nat.le_refl 1, rfl, y, rfl, ⟨by omega, yw⟩, fun w wl ww => ⟨.inl rfl, ?_⟩⟩
    exact Np.put (a := .dat (.str w)) (c := some (.dat (.str y))) rfl nDat rfl (fun _ => nofun) (h w ⟨by omega, ww⟩)
  · exact h y ⟨by omega, yw⟩
abbrev U3 : FS := (sSet 12 (fCall 2 F_rowIn (fCons (fFrz 3) (fCons (fVar 11) fNil))))
abbrev U4 : FS := (sSet 13 (fIf (fTest (f2 (gIsN false) (fVar 12) (fC (.dat (.none))))) (fDisp .newl (fCons (fC (.dat (.str "line"))) (fCons (fC (.dat (.int (1)))) fNil))) (fDisp .newl (fCons (fC (.dat (.str "read"))) (fCons (fFrz 12) fNil)))))
theorem u34_run (B : Bs rows ds a b) (hz : Tx z) (k12 : Np c12) (k13 : Np c13) (h : ∀ c12, Np c12 → R (st ns c1 c2 (some (.dat (flD rows))) c4 c5 c6 c7 c8 c9 c10 (some (.dat (.str z))) c12 (some (.own false (metV rows (.str z)))) c14 c15 c16) N x) :
    sCons U3 (sCons U4 R) (st ns c1 c2 (some (.dat (flD rows))) c4 c5 c6 c7 c8 c9 c10 (some (.dat (.str z))) c12 c13 c14 c15 c16) N x := by
  refine ⟨Nat.zero_le 1, rfl, rows, z, rfl, B.r8, B.ok.kd, hz, .inl rfl, ?_⟩
  cases v : versionB rows (rowV z) with
  | true =>
    have m : metV rows (.str z) = .list [.str "read", rowV z] := if_pos v
    rw [if_pos rfl]
    have q := h (some (.dat (rowV z))) nDat
    rw [m] at q
    refine Np.put (a := .dat (rowV z)) rfl k12 rfl (fun _ => nofun) ?_
    exact ⟨sz (by simp), Np.put (a := .own false (.list [.str "read", rowV z])) rfl k13 rfl (fun _ => nofun) q⟩
  | false =>
    have m : metV rows (.str z) = .list [.str "line", .int 1] := if_neg (by rw [v]; decide)
    rw [if_neg (by decide)]
    have q := h (some (.dat .none)) nDat
    rw [m] at q
    refine Np.put (a := .dat .none) rfl k12 rfl (fun _ => nofun) ?_
    exact ⟨sz (by simp), Np.put (a := .own false (.list [.str "line", .int 1])) rfl k13 rfl (fun _ => nofun) q⟩
abbrev U5 (C : Addr) : FS := (sIf (fAnd (fTest (fCall 1 F_short (fCons (fVar 11) fNil))) (fTest (f2 (gEqT true) (fB (g1 gReprX) (fCons (fCall 2 (F_met17 C) (fCons (fVar 4) (fCons (fVar 11) fNil))) fNil)) (fB (g1 gReprX) (fCons (fVar 13) fNil))))) (sRet (fC (.dat (.bool false)))) sNil)
theorem u5_run (B : Bs rows ds a b) (hz : Tx z) (h : N.nx (st ns c1 c2 c3 (some (schO C rows)) c5 c6 c7 c8 c9 c10 (some (.dat (.str z))) c12 (some (.own false (metV rows (.str z)))) c14 c15 c16)) :
    U5 C (st ns c1 c2 c3 (some (schO C rows)) c5 c6 c7 c8 c9 c10 (some (.dat (.str z))) c12 (some (.own false (metV rows (.str z)))) c14 c15 c16) N x := by
  refine ⟨Nat.zero_le 1, rfl, z, rfl, hz, fun e => ⟨.inl rfl, ?_⟩⟩
  have sx := met_show hz B.r8
  cases e with
  | false => exact h
  | true =>
    refine ⟨Nat.zero_le 1, rfl, rows, .str z, rfl, B.r8, B.ok.kd, fun y q => by cases q; exact ⟨hz.l, hz.w⟩, fun es m => ⟨.inl rfl, ?_⟩⟩
    rw [m] at sx
    have fin : ShowX (.list es) ∧ ShowX (metV rows (.str z)) ∧ if (true ^^ decide (PyData.shown (.list es) = PyData.shown (metV rows (.str z)))) = true then sRet (fC (.dat (.bool false))) (st ns c1 c2 c3 (some (schO C rows)) c5 c6 c7 c8 c9 c10 (some (.dat (.str z))) c12 (some (.own false (metV rows (.str z)))) c14 c15 c16) N x else sNil (st ns c1 c2 c3 (some (schO C rows)) c5 c6 c7 c8 c9 c10 (some (.dat (.str z))) c12 (some (.own false (metV rows (.str z)))) c14 c15 c16) N x := by
      rw [m] at h ⊢
      exact ⟨sx, sx, eqt_no h⟩
    exact fin
abbrev TurnF (C : Addr) : FS := sCons U1 (sCons U2 (sCons U3 (sCons U4 (U5 C))))
abbrev T11 (C : Addr) : FS := sFor (iR1 (fCons (fC (.dat (.int (8)))) fNil)) (gN 10) (TurnF C)
theorem t11_run (B : Bs rows ds a b) (k10 : Cl c10) (k11 : Np c11) (k12 : Np c12) (k13 : Np c13) (h : ∀ c10 c11 c12 c13, Cl c10 → Np c11 → Np c12 → Np c13 → R (st ns c1 (some (.pot false)) (some (.dat (flD rows))) (some (schO C rows)) c5 (some (.dat (.str (verT ds)))) c7 c8 c9 c10 c11 c12 c13 c14 c15 c16) N x) :
    sCons (T11 C) R (st ns c1 (some (.pot false)) (some (.dat (flD rows))) (some (schO C rows)) c5 (some (.dat (.str (verT ds)))) c7 c8 c9 c10 c11 c12 c13 c14 c15 c16) N x := by
  refine ⟨⟨by decide, by decide⟩, ?_⟩
  refine forF_by (fun _ ρ => ∃ c10 c11 c12 c13 : Option AV, ρ = st ns c1 (some (.pot false)) (some (.dat (flD rows))) (some (schO C rows)) c5 (some (.dat (.str (verT ds)))) c7 c8 c9 c10 c11 c12 c13 c14 c15 c16 ∧ Cl c10 ∧ Np c11 ∧ Np c12 ∧ Np c13) (fun i d ρ hd hI C' hC => ?_) (fun ρ hI => ?_) ⟨c10, c11, c12, c13, rfl, k10, k11, k12, k13⟩
  · obtain ⟨c10, c11, c12, c13, rfl, k10, k11, k12, k13⟩ := hI
    refine pd rfl k10 ?_
    exact u12_run (c10 := some (.dat d)) B k11 fun z hz => u34_run B hz k12 k13 fun c12 k12 => u5_run B hz (hC _ ⟨_, _, _, _, rfl, .dat, nDat, k12, nOwn⟩)
  · obtain ⟨c10, c11, c12, c13, rfl, k10, k11, k12, k13⟩ := hI
    exact h _ _ _ _ k10 k11 k12 k13
abbrev V1 (C : Addr) : FS := (sIf (fTest (f2 gNeZ (fCall 2 (F_met17 C) (fCons (fVar 4) (fCons (fVar 14) fNil))) (fDisp .newl (fCons (fC (.dat (.str "line"))) (fCons (fC (.dat (.int (0)))) fNil))))) (sRet (fC (.dat (.bool false)))) sNil)
abbrev T12 (C : Addr) : FS := (sFor (iSeq lK (fDisp .newl (fCons (fC (.dat (.none))) (fCons (fC (.dat (.int (0)))) (fCons (fC (.dat (.bool true))) (fCons (fDisp .newl (fCons (fFrz 6) fNil)) (fCons (fDisp .newt (fCons (fFrz 6) fNil)) (fCons (fFrz 5) (fCons (fD0) (fCons (f2 (gI CPow fun i j => .int (i ^ j.toNat)) (fC (.dat (.int (10)))) (fC (.dat (.int (20))))) fNil)))))))))) (gN 14) (V1 C))
abbrev noL (ds : List D) : List D := [.none, .int 0, .bool true, .list [.str (verT ds)], .tuple [.str (verT ds)], .tuple ds, .dict [], .int ((10 : Int) ^ 20)]
theorem met_no (h : isStr d = false) : metV rows d = .list [.str "line", .int 0] := by
  cases d <;> first | rfl | cases h
theorem v1_run (B : Bs rows ds a b) (hs : isStr d = false) (h : N.nx (st ns c1 c2 c3 (some (schO C rows)) c5 c6 c7 c8 c9 c10 c11 c12 c13 (some (.dat d)) c15 c16)) :
    V1 C (st ns c1 c2 c3 (some (schO C rows)) c5 c6 c7 c8 c9 c10 c11 c12 c13 (some (.dat d)) c15 c16) N x := by
  refine ⟨Nat.zero_le 1, rfl, rows, d, rfl, B.r8, B.ok.kd, fun y q => (by subst q; cases hs), fun es m => ⟨.inl rfl, ?_⟩⟩
  rw [met_no hs] at m
  cases m
  exact ⟨sz (by simp), nez_same (by decide +kernel) h⟩
theorem t12_run (B : Bs rows ds a b) (k14 : Cl c14) (h : ∀ c14, Cl c14 → R (st ns c1 c2 c3 (some (schO C rows)) (some (.dat (.tuple ds))) (some (.dat (.str (verT ds)))) c7 c8 c9 c10 c11 c12 c13 c14 c15 c16) N x) :
    sCons (T12 C) R (st ns c1 c2 c3 (some (schO C rows)) (some (.dat (.tuple ds))) (some (.dat (.str (verT ds)))) c7 c8 c9 c10 c11 c12 c13 c14 c15 c16) N x := by
  refine ⟨sz (by simp), sz (by simp), ⟨by decide, by decide⟩, sz (by simp), ?_⟩
  show forF (gN 14) (V1 C) (noL ds) _ _ _
  refine forF_by (fun _ ρ => ∃ c14 : Option AV, ρ = st ns c1 c2 c3 (some (schO C rows)) (some (.dat (.tuple ds))) (some (.dat (.str (verT ds)))) c7 c8 c9 c10 c11 c12 c13 c14 c15 c16 ∧ Cl c14) (fun i d ρ hd hI C' hC => ?_) (fun ρ hI => ?_) ⟨c14, rfl, k14⟩
  · obtain ⟨c14, rfl, k14⟩ := hI
    have hs : isStr d = false := by
      have all : ∀ d ∈ noL ds, isStr d = false := by simp [noL, isStr]
      exact all d (List.mem_of_getElem? hd)
    exact pd rfl k14 (v1_run B hs (hC _ ⟨_, rfl, .dat⟩))
  · obtain ⟨c14, rfl, k14⟩ := hI
    exact h _ k14
abbrev T13 : FS := (sPar 15 16 (fCons (f2 gIx (fDisp .newl (fCons (fB (g1 gList) (fCons (fVar 5) fNil)) (fCons (fSl (fVar 5) (oSome (fC (.dat (.int (1))))) oNone) (fCons (fC (.dat (.none))) (fCons (f2 gAdd (fVar 5) (fDisp .newt (fCons (fC (.dat (.str "a"))) fNil))) fNil))))) (fCall 2 F_draw (fCons (fVar 2) (fCons (fC (.dat (.int (4)))) fNil)))) (fCons (fC (.dat (.str "returned"))) fNil)))
theorem t13_run (B : Bs rows ds a b) (k15 : Np c15) (k16 : Np c16) (h : ∀ d, d ∈ oddL ds → R (st ns c1 (some (.pot false)) c3 c4 (some (.dat (.tuple ds))) c6 c7 c8 c9 c10 c11 c12 c13 c14 (some (.dat d)) (some (.dat (.str "returned")))) N x) :
    sCons T13 R (st ns c1 (some (.pot false)) c3 c4 (some (.dat (.tuple ds))) c6 c7 c8 c9 c10 c11 c12 c13 c14 c15 c16) N x := by
  have r8 := B.r8
  have dl := B.vo.len
  refine ⟨sz (by simp), Nat.le_of_lt (small1000 (by show ds.length + 1 ≤ 1000; omega)), sz (by simp), Nat.le_refl 1, rfl, 4, rfl, by decide, by decide, fun j j0 j1 => ⟨.inl rfl, ?_⟩⟩
  obtain ⟨n, rfl⟩ : ∃ n : Nat, j = n := ⟨j.toNat, by omega⟩
  have hn : n < (oddL ds).length := by show n < 4; omega
  have at_ : atI (oddL ds) n = some ((oddL ds)[n]'hn) := atI_nat (List.getElem?_eq_getElem hn)
  have fin : Tr.putK 15 (.dat ((oddL ds)[n]'hn)) (st ns c1 (some (.pot false)) c3 c4 (some (.dat (.tuple ds))) c6 c7 c8 c9 c10 c11 c12 c13 c14 c15 c16) fun ρ2 => Tr.putK 16 (.dat (.str "returned")) ρ2 fun ρ' => R ρ' N x :=
    Np.put rfl k15 rfl (fun _ => nofun) (Np.put rfl k16 rfl (fun _ => nofun) (h _ (List.getElem_mem hn)))
  exact ⟨_, at_, fin⟩
abbrev T14 (C DV : Addr) : FS := (sTryAs 17 DV (sExpr (fCall 2 (F_verTX C DV) (fCons (fVar 4) (fCons (fVar 15) fNil)))) (fun a dd => (sSet 16 (fXf 17 a DV dd "version"))))
abbrev T15 : FS := (sIf (fTest (f2 (gEqT true) (fB (g1 gReprX) (fCons (fVar 16) fNil)) (fB (g1 gReprX) (fCons (fVar 15) fNil)))) (sRet (fC (.dat (.bool false)))) sNil)
theorem t145_run (B : Bs rows ds a b) (hd : d ∈ oddL ds) (h : N.nx (st ns c1 c2 c3 (some (schO C rows)) c5 c6 c7 c8 c9 c10 c11 c12 c13 c14 (some (.dat d)) (some (.dat d)))) :
    sCons (T14 C DV) T15 (st ns c1 c2 c3 (some (schO C rows)) c5 c6 c7 c8 c9 c10 c11 c12 c13 c14 (some (.dat d)) (some (.dat (.str "returned")))) N x := by
  obtain ⟨vb, sh, kp, sx⟩ := odd_ok (by decide) B.r8 B.vo (ver_ne B B.vo) hd
  refine ⟨Nat.zero_le 1, rfl, rows, d, rfl, B.r8, B.ok.kd, .inr ⟨vb, sh, kp, .inl rfl, rfl, fun a dd => ?_⟩⟩
  refine ⟨⟨rfl, rfl, rfl⟩, d, rfl, ?_⟩
  exact ⟨sx, sx, eqt_no h⟩
end
end KQ
set_option Elab.async false
set_option linter.all false
set_option maxRecDepth 100000
namespace KQ
open PySem PySem.Spec PyProof.Rows L2 Evl Kc Kz Kx Tr Mg K23 K22 K27 K24 KA KB KF TL
section
variable {C DT DV : Addr} {ns : List Int} {N : EndsT} {x : KX}
abbrev OuterF (C DT DV : Addr) : FS := sCons T1 (sCons T2 (sCons (T3 C) (sCons T4 (sCons (T5 C DT DV) (sCons (T6 C DT DV) (sCons T7 (sCons T8 (sCons T9 (sCons (T10 C DT DV) (sCons (T11 C) (sCons (T12 C) (sCons T13 (sCons (T14 C DV) T15)))))))))))))
theorem nPot : Np (some (.pot false)) := fun b hb => by cases hb; rfl
theorem outer_run {n : Nat} (hn : n ≤ 6) (h : ∀ c1 c2 c3 c4 c5 c6 c7 c8 c9 c10 c11 c12 c13 c14 c15 c16, N.nx (st ns c1 c2 c3 c4 c5 c6 c7 c8 c9 c10 c11 c12 c13 c14 c15 c16)) :
    forF (gN 1) (OuterF C DT DV) (rngD 0 n) (st ns none none none none none none none none none none none none none none none none) N x := by
  refine forF_by (fun _ ρ => ∃ c1 c2 c3 c4 c5 c6 c7 c8 c9 c10 c11 c12 c13 c14 c15 c16 : Option AV, ρ = st ns c1 c2 c3 c4 c5 c6 c7 c8 c9 c10 c11 c12 c13 c14 c15 c16 ∧ Cl c1 ∧ Np c2 ∧ Np c3 ∧ Np c4 ∧ Np c5 ∧ Np c6 ∧ Np c7 ∧ Np c8 ∧ Np c9 ∧ Cl c10 ∧ Np c11 ∧ Np c12 ∧ Np c13 ∧ Cl c14 ∧ Np c15 ∧ Np c16) (fun i a ρ ha hI C' hC => ?_) (fun ρ hI => ?_)
    ⟨none, none, none, none, none, none, none, none, none, none, none, none, none, none, none, none, rfl, .no, nofun, nofun, nofun, nofun, nofun, nofun, nofun, nofun, .no, nofun, nofun, nofun, .no, nofun, nofun⟩
  · obtain ⟨c1, c2, c3, c4, c5, c6, c7, c8, c9, c10, c11, c12, c13, c14, c15, c16, rfl, k1, k2, k3, k4, k5, k6, k7, k8, k9, k10, k11, k12, k13, k14, k15, k16⟩ := hI
    obtain ⟨hi, rfl⟩ := rngD_get ha
    rw [show (0 : Int) + (i : Nat) = (i : Nat) by omega]
    refine pd rfl k1 ?_
    refine t1_run (m := i) k2 (by omega) (t23_run k3 k4 k5 fun rows ds a b B => t4_run B k6 (t5_run B (t6_run B (t7_run k7 fun far hf => t8_run B hf k8 fun gs vo => t9_run B vo k9 (t10_run B vo (t11_run B k10 k11 k12 k13 fun c10 c11 c12 c13 k10 k11 k12 k13 => t12_run B k14 fun c14 k14 => t13_run B k15 k16 fun d hd => t145_run B hd ?_))))))
    exact hC _ ⟨_, _, _, _, _, _, _, _, _, _, _, _, _, _, _, _, rfl, .dat, nPot, nDat, nObj, nDat, nDat, nDat, nDat, nDat, k10, k11, k12, k13, k14, nDat, nDat⟩
  · obtain ⟨c1, c2, c3, c4, c5, c6, c7, c8, c9, c10, c11, c12, c13, c14, c15, c16, rfl, _⟩ := hI
    exact h _ _ _ _ _ _ _ _ _ _ _ _ _ _ _ _
end
theorem imp_law17 (C DT DV : Addr) : ∀ as k x, as.length = 1 → F_law as k x → KQ.fb_law C DT DV (start0 19 as) (Ok k) fun c _ => x c := by
  rintro _ k x _ ⟨ns, rfl, hk⟩
  obtain ⟨M, hM, h0, h6⟩ : ∃ M : Int, M = (if (if (ns.length : Int) < (6 : Int) then (ns.length : Int) else (6 : Int)) > 1 then (if (ns.length : Int) < (6 : Int) then (ns.length : Int) else (6 : Int)) else 1) ∧ 0 ≤ M ∧ M ≤ 6 := ⟨_, rfl, by split <;> split <;> omega, by split <;> split <;> omega⟩
  refine ⟨⟨?_, ?_⟩, ?_⟩
  · show -(2 ^ 62) ≤ (if (if (ns.length : Int) < (6 : Int) then (ns.length : Int) else (6 : Int)) > 1 then (if (ns.length : Int) < (6 : Int) then (ns.length : Int) else (6 : Int)) else 1)
    rw [← hM]
    omega
  · show (if (if (ns.length : Int) < (6 : Int) then (ns.length : Int) else (6 : Int)) > 1 then (if (ns.length : Int) < (6 : Int) then (ns.length : Int) else (6 : Int)) else 1) < 2 ^ 62
    rw [← hM]
    omega
  show forF (gN 1) (OuterF C DT DV) (rngD 0 (if (if (ns.length : Int) < (6 : Int) then (ns.length : Int) else (6 : Int)) > 1 then (if (ns.length : Int) < (6 : Int) then (ns.length : Int) else (6 : Int)) else 1).toNat) (st ns none none none none none none none none none none none none none none none none) _ _
  rw [← hM]
  refine outer_run (by omega) ?_
  intro c1 c2 c3 c4 c5 c6 c7 c8 c9 c10 c11 c12 c13 c14 c15 c16
  exact hk
end KQ
set_option Elab.async false
set_option linter.all false
set_option maxRecDepth 100000
namespace K17
open PySem PySem.Spec PyProof.Rows L2 Evl Kc Kz Kx Tr Mg TL ClX K23 K22 K27 K24 KA KB KF KQ
def spLaw (K : PySem.W.Frag) : Sp := fun vs H Q _ => spT K 1 F_law vs H Q fun _ _ _ => False
theorem want_law (K : PySem.W.Frag) (H : Hp) (a : Addr) (ns : List Int) (hS : SqL K H a (ns.map V.int)) : spLaw K [.ref a] H (fun v _ => v = .bl true) fun _ _ _ => False := by
  refine ⟨Tr.noTab H, [.scr ns], (fun r => r = .dat (.bool true)), (fun _ => False), rfl, Tr.noTab_ex, ⟨.cons ⟨a, rfl, Tr.noTab_sql hS⟩ .nil, fun b hb yo => ?_, (fun i j b c v n h1 h2 o1 _ _ _ => ?_), Tr.noTab_gno⟩, ⟨ns, rfl, rfl⟩, fun r G' v H' po rr hk => ?_, fun _ _ _ _ _ _ z => z.elim⟩
  · cases List.mem_singleton.mp hb
    cases yo
  · cases List.mem_singleton.mp (List.mem_of_getElem? h1)
    cases o1
  · subst hk
    rcases rr with ⟨_, hh⟩ | ⟨z, _⟩
    · cases (show Rp K G' v (.bool true) from hh)
      rfl
    · cases z
set_option maxHeartbeats 0 in
theorem all_mk {l : PySem.W.OpenLaw} {w : World} {K : PySem.W.Frag} {h : Heap} {mg : Str → Option Value} {fa C kt : Addr} (X : K.In h) (G : h.Ns mainGlobals mg) (hfa : mg "law" = some (.ref fa))
    {fis_name fis_whole_number fis_field ffield_problem fis_value fis_version fnumber_text fis_number_text fnumber_of fvalue_text fread_value fversion_text fread_version flaw_word flaw_words flaw_mixed flaw_fields flaw_step flaw_plan flaw_row flaw_rows flaw_is_int flaw_is_word flaw_is_row flaw_some_fields flaw_number_in flaw_row_in flaw_line_of flaw_met flaw_bent flaw_is_short flaw flaw_draw flaw_pot finit fslen fsflds : Addr} {odis_name anis_name odis_whole_number anis_whole_number odis_field anis_field odfield_problem anfield_problem odis_value anis_value odis_version anis_version odnumber_text annumber_text odis_number_text anis_number_text odnumber_of annumber_of odvalue_text anvalue_text odread_value anread_value odversion_text anversion_text odread_version anread_version odlaw_word anlaw_word odlaw_words anlaw_words odlaw_mixed anlaw_mixed odlaw_fields anlaw_fields odlaw_step anlaw_step odlaw_plan anlaw_plan odlaw_row anlaw_row odlaw_rows anlaw_rows odlaw_is_int anlaw_is_int odlaw_is_word anlaw_is_word odlaw_is_row anlaw_is_row odlaw_some_fields anlaw_some_fields odlaw_number_in anlaw_number_in odlaw_row_in anlaw_row_in odlaw_line_of anlaw_line_of odlaw_met anlaw_met odlaw_bent anlaw_bent odlaw_is_short anlaw_is_short odlaw anlaw odlaw_draw anlaw_draw odlaw_pot anlaw_pot odinit aninit odslen anslen odsflds ansflds ddk : Option Addr} {slis_name slis_whole_number slis_field slfield_problem slis_value slis_version slnumber_text slis_number_text slnumber_of slvalue_text slread_value slversion_text slread_version sllaw_word sllaw_words sllaw_mixed sllaw_fields sllaw_step sllaw_plan sllaw_row sllaw_rows sllaw_is_int sllaw_is_word sllaw_is_row sllaw_some_fields sllaw_number_in sllaw_row_in sllaw_line_of sllaw_met sllaw_bent sllaw_is_short sllaw sllaw_draw sllaw_pot slinit slslen slsflds slk : Array (Option Value)} {nk : Nat}
    {ocis_name kVis_name dcis_name pmis_name cdis_name ctis_name ocis_whole_number kVis_whole_number dcis_whole_number pmis_whole_number cdis_whole_number ctis_whole_number ocis_field kVis_field dcis_field pmis_field cdis_field ctis_field ocfield_problem kVfield_problem dcfield_problem pmfield_problem cdfield_problem ctfield_problem ocis_value kVis_value dcis_value pmis_value cdis_value ctis_value ocis_version kVis_version dcis_version pmis_version cdis_version ctis_version ocnumber_text kVnumber_text dcnumber_text pmnumber_text cdnumber_text ctnumber_text ocis_number_text kVis_number_text dcis_number_text pmis_number_text cdis_number_text ctis_number_text ocnumber_of kVnumber_of dcnumber_of pmnumber_of cdnumber_of ctnumber_of ocvalue_text kVvalue_text dcvalue_text pmvalue_text cdvalue_text ctvalue_text ocread_value kVread_value dcread_value pmread_value cdread_value ctread_value ocversion_text kVversion_text dcversion_text pmversion_text cdversion_text ctversion_text ocread_version kVread_version dcread_version pmread_version cdread_version ctread_version oclaw_word kVlaw_word dclaw_word pmlaw_word cdlaw_word ctlaw_word oclaw_words kVlaw_words dclaw_words pmlaw_words cdlaw_words ctlaw_words oclaw_mixed kVlaw_mixed dclaw_mixed pmlaw_mixed cdlaw_mixed ctlaw_mixed oclaw_fields kVlaw_fields dclaw_fields pmlaw_fields cdlaw_fields ctlaw_fields oclaw_step kVlaw_step dclaw_step pmlaw_step cdlaw_step ctlaw_step oclaw_plan kVlaw_plan dclaw_plan pmlaw_plan cdlaw_plan ctlaw_plan oclaw_row kVlaw_row dclaw_row pmlaw_row cdlaw_row ctlaw_row oclaw_rows kVlaw_rows dclaw_rows pmlaw_rows cdlaw_rows ctlaw_rows oclaw_is_int kVlaw_is_int dclaw_is_int pmlaw_is_int cdlaw_is_int ctlaw_is_int oclaw_is_word kVlaw_is_word dclaw_is_word pmlaw_is_word cdlaw_is_word ctlaw_is_word oclaw_is_row kVlaw_is_row dclaw_is_row pmlaw_is_row cdlaw_is_row ctlaw_is_row oclaw_some_fields kVlaw_some_fields dclaw_some_fields pmlaw_some_fields cdlaw_some_fields ctlaw_some_fields oclaw_number_in kVlaw_number_in dclaw_number_in pmlaw_number_in cdlaw_number_in ctlaw_number_in oclaw_row_in kVlaw_row_in dclaw_row_in pmlaw_row_in cdlaw_row_in ctlaw_row_in oclaw_line_of kVlaw_line_of dclaw_line_of pmlaw_line_of cdlaw_line_of ctlaw_line_of oclaw_met kVlaw_met dclaw_met pmlaw_met cdlaw_met ctlaw_met oclaw_bent kVlaw_bent dclaw_bent pmlaw_bent cdlaw_bent ctlaw_bent oclaw_is_short kVlaw_is_short dclaw_is_short pmlaw_is_short cdlaw_is_short ctlaw_is_short oclaw kVlaw dclaw pmlaw cdlaw ctlaw oclaw_draw kVlaw_draw dclaw_draw pmlaw_draw cdlaw_draw ctlaw_draw oclaw_pot kVlaw_pot dclaw_pot pmlaw_pot cdlaw_pot ctlaw_pot ocinit kVinit dcinit pminit cdinit ctinit ocslen kVslen dcslen pmslen cdslen ctslen ocsflds kVsflds dcsflds pmsflds cdsflds ctsflds : Value} {t1 t2 t3 tL tC q1 q2 q3 tg_DIGITS : Tok}
    {D_InvalidCommand D_InvalidSchema D_InvalidText D_InvalidVersion D_MergeError : Addr}
    {fkept tpK : Addr} {ocK kVK dcK pmK cdK ctK ocT : Value} {odK anK odT : Option Addr} {slK slT : Array (Option Value)} {nT : Nat} {tkT : Tok}
    {fi_InvalidText cda_InvalidText cc_InvalidText N_InvalidText : Addr} {nm_InvalidText q_InvalidText file_InvalidText : Str} {bs_InvalidText bm_InvalidText sub_InvalidText : List Value} {sn_InvalidText : List Str} {ab_InvalidText : Bool} {col_InvalidText : Option Bool} {dd_InvalidText di_InvalidText an_InvalidText dl_InvalidText de_InvalidText : Option Addr} {k0_InvalidText k1_InvalidText k2_InvalidText k3_InvalidText k5_InvalidText : Option Value} {oi_InvalidText kv_InvalidText dc_InvalidText pm_InvalidText ct_InvalidText ol_InvalidText oe_InvalidText : Value} {si_InvalidText sl_InvalidText se_InvalidText : Array (Option Value)} {vs_InvalidText : Array Value} {tf_InvalidText : Tok}
    {fi_InvalidVersion cda_InvalidVersion cc_InvalidVersion N_InvalidVersion : Addr} {nm_InvalidVersion q_InvalidVersion file_InvalidVersion : Str} {bs_InvalidVersion bm_InvalidVersion sub_InvalidVersion : List Value} {sn_InvalidVersion : List Str} {ab_InvalidVersion : Bool} {col_InvalidVersion : Option Bool} {dd_InvalidVersion di_InvalidVersion an_InvalidVersion dl_InvalidVersion de_InvalidVersion : Option Addr} {k0_InvalidVersion k1_InvalidVersion k2_InvalidVersion k3_InvalidVersion k5_InvalidVersion : Option Value} {oi_InvalidVersion kv_InvalidVersion dc_InvalidVersion pm_InvalidVersion ct_InvalidVersion ol_InvalidVersion oe_InvalidVersion : Value} {si_InvalidVersion sl_InvalidVersion se_InvalidVersion : Array (Option Value)} {vs_InvalidVersion : Array Value} {tf_InvalidVersion : Tok}
    (ais_name : PySem.W.nsIn K mainGlobals "is_name" = some (some (.ref fis_name)))
    (ais_whole_number : PySem.W.nsIn K mainGlobals "is_whole_number" = some (some (.ref fis_whole_number)))
    (ais_field : PySem.W.nsIn K mainGlobals "is_field" = some (some (.ref fis_field)))
    (afield_problem : PySem.W.nsIn K mainGlobals "field_problem" = some (some (.ref ffield_problem)))
    (ais_value : PySem.W.nsIn K mainGlobals "is_value" = some (some (.ref fis_value)))
    (ais_version : PySem.W.nsIn K mainGlobals "is_version" = some (some (.ref fis_version)))
    (anumber_text : PySem.W.nsIn K mainGlobals "number_text" = some (some (.ref fnumber_text)))
    (ais_number_text : PySem.W.nsIn K mainGlobals "is_number_text" = some (some (.ref fis_number_text)))
    (anumber_of : PySem.W.nsIn K mainGlobals "number_of" = some (some (.ref fnumber_of)))
    (avalue_text : PySem.W.nsIn K mainGlobals "value_text" = some (some (.ref fvalue_text)))
    (aread_value : PySem.W.nsIn K mainGlobals "read_value" = some (some (.ref fread_value)))
    (aversion_text : PySem.W.nsIn K mainGlobals "version_text" = some (some (.ref fversion_text)))
    (aread_version : PySem.W.nsIn K mainGlobals "read_version" = some (some (.ref fread_version)))
    (alaw_word : PySem.W.nsIn K mainGlobals "_law_word" = some (some (.ref flaw_word)))
    (alaw_words : PySem.W.nsIn K mainGlobals "_law_words" = some (some (.ref flaw_words)))
    (alaw_mixed : PySem.W.nsIn K mainGlobals "_law_mixed" = some (some (.ref flaw_mixed)))
    (alaw_fields : PySem.W.nsIn K mainGlobals "_law_fields" = some (some (.ref flaw_fields)))
    (alaw_step : PySem.W.nsIn K mainGlobals "_law_step" = some (some (.ref flaw_step)))
    (alaw_plan : PySem.W.nsIn K mainGlobals "_law_plan" = some (some (.ref flaw_plan)))
    (alaw_row : PySem.W.nsIn K mainGlobals "_law_row" = some (some (.ref flaw_row)))
    (alaw_rows : PySem.W.nsIn K mainGlobals "_law_rows" = some (some (.ref flaw_rows)))
    (alaw_is_int : PySem.W.nsIn K mainGlobals "_law_is_int" = some (some (.ref flaw_is_int)))
    (alaw_is_word : PySem.W.nsIn K mainGlobals "_law_is_word" = some (some (.ref flaw_is_word)))
    (alaw_is_row : PySem.W.nsIn K mainGlobals "_law_is_row" = some (some (.ref flaw_is_row)))
    (alaw_some_fields : PySem.W.nsIn K mainGlobals "_law_some_fields" = some (some (.ref flaw_some_fields)))
    (alaw_number_in : PySem.W.nsIn K mainGlobals "_law_number_in" = some (some (.ref flaw_number_in)))
    (alaw_row_in : PySem.W.nsIn K mainGlobals "_law_row_in" = some (some (.ref flaw_row_in)))
    (alaw_line_of : PySem.W.nsIn K mainGlobals "_law_line_of" = some (some (.ref flaw_line_of)))
    (alaw_met : PySem.W.nsIn K mainGlobals "_law_met" = some (some (.ref flaw_met)))
    (alaw_bent : PySem.W.nsIn K mainGlobals "_law_bent" = some (some (.ref flaw_bent)))
    (alaw_is_short : PySem.W.nsIn K mainGlobals "_law_is_short" = some (some (.ref flaw_is_short)))
    (alaw : PySem.W.nsIn K mainGlobals "law" = some (some (.ref flaw)))
    (alaw_draw : PySem.W.nsIn K mainGlobals "_law_draw" = some (some (.ref flaw_draw)))
    (alaw_pot : PySem.W.nsIn K mainGlobals "_law_pot" = some (some (.ref flaw_pot)))
    (aC : PySem.W.nsIn K mainGlobals "Schema" = some (some (.ref C)))
    (ainit : PySem.W.findIn K (.ref C) "__init__" = some (some (.ref finit)))
    (aslen : PySem.W.findIn K (.ref C) "__len__" = some (some (.ref fslen)))
    (asflds : PySem.W.findIn K (.ref C) "fields" = some (some (.ref fsflds)))
    (lis_name : K.lookup fis_name = some ⟨ocis_name, odis_name, .func (PySem.W.fnOf "is_name" "is_name" (defArgs s_is_name) (defBody s_is_name) (defScope s_is_name) .none kVis_name dcis_name pmis_name anis_name cdis_name ctis_name), slis_name⟩)
    (cis_name : PySem.W.codeIn K cdis_name "is_name" = true)
    (kis_name : PySem.W.keepIn K (.ref fis_name) = true)
    (lis_whole_number : K.lookup fis_whole_number = some ⟨ocis_whole_number, odis_whole_number, .func (PySem.W.fnOf "is_whole_number" "is_whole_number" (defArgs s_is_whole_number) (defBody s_is_whole_number) (defScope s_is_whole_number) .none kVis_whole_number dcis_whole_number pmis_whole_number anis_whole_number cdis_whole_number ctis_whole_number), slis_whole_number⟩)
    (cis_whole_number : PySem.W.codeIn K cdis_whole_number "is_whole_number" = true)
    (kis_whole_number : PySem.W.keepIn K (.ref fis_whole_number) = true)
    (lis_field : K.lookup fis_field = some ⟨ocis_field, odis_field, .func (PySem.W.fnOf "is_field" "is_field" (defArgs s_is_field) (defBody s_is_field) (defScope s_is_field) .none kVis_field dcis_field pmis_field anis_field cdis_field ctis_field), slis_field⟩)
    (cis_field : PySem.W.codeIn K cdis_field "is_field" = true)
    (kis_field : PySem.W.keepIn K (.ref fis_field) = true)
    (lfield_problem : K.lookup ffield_problem = some ⟨ocfield_problem, odfield_problem, .func (PySem.W.fnOf "field_problem" "field_problem" (defArgs s_field_problem) (defBody s_field_problem) (defScope s_field_problem) .none kVfield_problem dcfield_problem pmfield_problem anfield_problem cdfield_problem ctfield_problem), slfield_problem⟩)
    (cfield_problem : PySem.W.codeIn K cdfield_problem "field_problem" = true)
    (kfield_problem : PySem.W.keepIn K (.ref ffield_problem) = true)
    (lis_value : K.lookup fis_value = some ⟨ocis_value, odis_value, .func (PySem.W.fnOf "is_value" "is_value" (defArgs s_is_value) (defBody s_is_value) (defScope s_is_value) .none kVis_value dcis_value pmis_value anis_value cdis_value ctis_value), slis_value⟩)
    (cis_value : PySem.W.codeIn K cdis_value "is_value" = true)
    (kis_value : PySem.W.keepIn K (.ref fis_value) = true)
    (lis_version : K.lookup fis_version = some ⟨ocis_version, odis_version, .func (PySem.W.fnOf "is_version" "is_version" (defArgs s_is_version) (defBody s_is_version) (defScope s_is_version) .none kVis_version dcis_version pmis_version anis_version cdis_version ctis_version), slis_version⟩)
    (cis_version : PySem.W.codeIn K cdis_version "is_version" = true)
    (kis_version : PySem.W.keepIn K (.ref fis_version) = true)
    (lnumber_text : K.lookup fnumber_text = some ⟨ocnumber_text, odnumber_text, .func (PySem.W.fnOf "number_text" "number_text" (defArgs s_number_text) (defBody s_number_text) (defScope s_number_text) .none kVnumber_text dcnumber_text pmnumber_text annumber_text cdnumber_text ctnumber_text), slnumber_text⟩)
    (cnumber_text : PySem.W.codeIn K cdnumber_text "number_text" = true)
    (knumber_text : PySem.W.keepIn K (.ref fnumber_text) = true)
    (lis_number_text : K.lookup fis_number_text = some ⟨ocis_number_text, odis_number_text, .func (PySem.W.fnOf "is_number_text" "is_number_text" (defArgs s_is_number_text) (defBody s_is_number_text) (defScope s_is_number_text) .none kVis_number_text dcis_number_text pmis_number_text anis_number_text cdis_number_text ctis_number_text), slis_number_text⟩)
    (cis_number_text : PySem.W.codeIn K cdis_number_text "is_number_text" = true)
    (kis_number_text : PySem.W.keepIn K (.ref fis_number_text) = true)
    (lnumber_of : K.lookup fnumber_of = some ⟨ocnumber_of, odnumber_of, .func (PySem.W.fnOf "number_of" "number_of" (defArgs s_number_of) (defBody s_number_of) (defScope s_number_of) .none kVnumber_of dcnumber_of pmnumber_of annumber_of cdnumber_of ctnumber_of), slnumber_of⟩)
    (cnumber_of : PySem.W.codeIn K cdnumber_of "number_of" = true)
    (knumber_of : PySem.W.keepIn K (.ref fnumber_of) = true)
    (lvalue_text : K.lookup fvalue_text = some ⟨ocvalue_text, odvalue_text, .func (PySem.W.fnOf "value_text" "value_text" (defArgs s_value_text) (defBody s_value_text) (defScope s_value_text) .none kVvalue_text dcvalue_text pmvalue_text anvalue_text cdvalue_text ctvalue_text), slvalue_text⟩)
    (cvalue_text : PySem.W.codeIn K cdvalue_text "value_text" = true)
    (kvalue_text : PySem.W.keepIn K (.ref fvalue_text) = true)
    (lread_value : K.lookup fread_value = some ⟨ocread_value, odread_value, .func (PySem.W.fnOf "read_value" "read_value" (defArgs s_read_value) (defBody s_read_value) (defScope s_read_value) .none kVread_value dcread_value pmread_value anread_value cdread_value ctread_value), slread_value⟩)
    (cread_value : PySem.W.codeIn K cdread_value "read_value" = true)
    (kread_value : PySem.W.keepIn K (.ref fread_value) = true)
    (lversion_text : K.lookup fversion_text = some ⟨ocversion_text, odversion_text, .func (PySem.W.fnOf "version_text" "version_text" (defArgs s_version_text) (defBody s_version_text) (defScope s_version_text) .none kVversion_text dcversion_text pmversion_text anversion_text cdversion_text ctversion_text), slversion_text⟩)
    (cversion_text : PySem.W.codeIn K cdversion_text "version_text" = true)
    (kversion_text : PySem.W.keepIn K (.ref fversion_text) = true)
    (lread_version : K.lookup fread_version = some ⟨ocread_version, odread_version, .func (PySem.W.fnOf "read_version" "read_version" (defArgs s_read_version) (defBody s_read_version) (defScope s_read_version) .none kVread_version dcread_version pmread_version anread_version cdread_version ctread_version), slread_version⟩)
    (cread_version : PySem.W.codeIn K cdread_version "read_version" = true)
    (kread_version : PySem.W.keepIn K (.ref fread_version) = true)
    (llaw_word : K.lookup flaw_word = some ⟨oclaw_word, odlaw_word, .func (PySem.W.fnOf "_law_word" "_law_word" (defArgs s_law_word) (defBody s_law_word) (defScope s_law_word) .none kVlaw_word dclaw_word pmlaw_word anlaw_word cdlaw_word ctlaw_word), sllaw_word⟩)
    (claw_word : PySem.W.codeIn K cdlaw_word "_law_word" = true)
    (klaw_word : PySem.W.keepIn K (.ref flaw_word) = true)
    (llaw_words : K.lookup flaw_words = some ⟨oclaw_words, odlaw_words, .func (PySem.W.fnOf "_law_words" "_law_words" (defArgs s_law_words) (defBody s_law_words) (defScope s_law_words) .none kVlaw_words dclaw_words pmlaw_words anlaw_words cdlaw_words ctlaw_words), sllaw_words⟩)
    (claw_words : PySem.W.codeIn K cdlaw_words "_law_words" = true)
    (klaw_words : PySem.W.keepIn K (.ref flaw_words) = true)
    (llaw_mixed : K.lookup flaw_mixed = some ⟨oclaw_mixed, odlaw_mixed, .func (PySem.W.fnOf "_law_mixed" "_law_mixed" (defArgs s_law_mixed) (defBody s_law_mixed) (defScope s_law_mixed) .none kVlaw_mixed dclaw_mixed pmlaw_mixed anlaw_mixed cdlaw_mixed ctlaw_mixed), sllaw_mixed⟩)
    (claw_mixed : PySem.W.codeIn K cdlaw_mixed "_law_mixed" = true)
    (klaw_mixed : PySem.W.keepIn K (.ref flaw_mixed) = true)
    (llaw_fields : K.lookup flaw_fields = some ⟨oclaw_fields, odlaw_fields, .func (PySem.W.fnOf "_law_fields" "_law_fields" (defArgs s_law_fields) (defBody s_law_fields) (defScope s_law_fields) .none kVlaw_fields dclaw_fields pmlaw_fields anlaw_fields cdlaw_fields ctlaw_fields), sllaw_fields⟩)
    (claw_fields : PySem.W.codeIn K cdlaw_fields "_law_fields" = true)
    (klaw_fields : PySem.W.keepIn K (.ref flaw_fields) = true)
    (llaw_step : K.lookup flaw_step = some ⟨oclaw_step, odlaw_step, .func (PySem.W.fnOf "_law_step" "_law_step" (defArgs s_law_step) (defBody s_law_step) (defScope s_law_step) .none kVlaw_step dclaw_step pmlaw_step anlaw_step cdlaw_step ctlaw_step), sllaw_step⟩)
    (claw_step : PySem.W.codeIn K cdlaw_step "_law_step" = true)
    (klaw_step : PySem.W.keepIn K (.ref flaw_step) = true)
    (llaw_plan : K.lookup flaw_plan = some ⟨oclaw_plan, odlaw_plan, .func (PySem.W.fnOf "_law_plan" "_law_plan" (defArgs s_law_plan) (defBody s_law_plan) (defScope s_law_plan) .none kVlaw_plan dclaw_plan pmlaw_plan anlaw_plan cdlaw_plan ctlaw_plan), sllaw_plan⟩)
    (claw_plan : PySem.W.codeIn K cdlaw_plan "_law_plan" = true)
    (klaw_plan : PySem.W.keepIn K (.ref flaw_plan) = true)
    (llaw_row : K.lookup flaw_row = some ⟨oclaw_row, odlaw_row, .func (PySem.W.fnOf "_law_row" "_law_row" (defArgs s_law_row) (defBody s_law_row) (defScope s_law_row) .none kVlaw_row dclaw_row pmlaw_row anlaw_row cdlaw_row ctlaw_row), sllaw_row⟩)
    (claw_row : PySem.W.codeIn K cdlaw_row "_law_row" = true)
    (klaw_row : PySem.W.keepIn K (.ref flaw_row) = true)
    (llaw_rows : K.lookup flaw_rows = some ⟨oclaw_rows, odlaw_rows, .func (PySem.W.fnOf "_law_rows" "_law_rows" (defArgs s_law_rows) (defBody s_law_rows) (defScope s_law_rows) .none kVlaw_rows dclaw_rows pmlaw_rows anlaw_rows cdlaw_rows ctlaw_rows), sllaw_rows⟩)
    (claw_rows : PySem.W.codeIn K cdlaw_rows "_law_rows" = true)
    (klaw_rows : PySem.W.keepIn K (.ref flaw_rows) = true)
    (llaw_is_int : K.lookup flaw_is_int = some ⟨oclaw_is_int, odlaw_is_int, .func (PySem.W.fnOf "_law_is_int" "_law_is_int" (defArgs s_law_is_int) (defBody s_law_is_int) (defScope s_law_is_int) .none kVlaw_is_int dclaw_is_int pmlaw_is_int anlaw_is_int cdlaw_is_int ctlaw_is_int), sllaw_is_int⟩)
    (claw_is_int : PySem.W.codeIn K cdlaw_is_int "_law_is_int" = true)
    (klaw_is_int : PySem.W.keepIn K (.ref flaw_is_int) = true)
    (llaw_is_word : K.lookup flaw_is_word = some ⟨oclaw_is_word, odlaw_is_word, .func (PySem.W.fnOf "_law_is_word" "_law_is_word" (defArgs s_law_is_word) (defBody s_law_is_word) (defScope s_law_is_word) .none kVlaw_is_word dclaw_is_word pmlaw_is_word anlaw_is_word cdlaw_is_word ctlaw_is_word), sllaw_is_word⟩)
    (claw_is_word : PySem.W.codeIn K cdlaw_is_word "_law_is_word" = true)
    (klaw_is_word : PySem.W.keepIn K (.ref flaw_is_word) = true)
    (llaw_is_row : K.lookup flaw_is_row = some ⟨oclaw_is_row, odlaw_is_row, .func (PySem.W.fnOf "_law_is_row" "_law_is_row" (defArgs s_law_is_row) (defBody s_law_is_row) (defScope s_law_is_row) .none kVlaw_is_row dclaw_is_row pmlaw_is_row anlaw_is_row cdlaw_is_row ctlaw_is_row), sllaw_is_row⟩)
    (claw_is_row : PySem.W.codeIn K cdlaw_is_row "_law_is_row" = true)
    (klaw_is_row : PySem.W.keepIn K (.ref flaw_is_row) = true)
    (llaw_some_fields : K.lookup flaw_some_fields = some ⟨oclaw_some_fields, odlaw_some_fields, .func (PySem.W.fnOf "_law_some_fields" "_law_some_fields" (defArgs s_law_some_fields) (defBody s_law_some_fields) (defScope s_law_some_fields) .none kVlaw_some_fields dclaw_some_fields pmlaw_some_fields anlaw_some_fields cdlaw_some_fields ctlaw_some_fields), sllaw_some_fields⟩)
    (claw_some_fields : PySem.W.codeIn K cdlaw_some_fields "_law_some_fields" = true)
    (klaw_some_fields : PySem.W.keepIn K (.ref flaw_some_fields) = true)
    (llaw_number_in : K.lookup flaw_number_in = some ⟨oclaw_number_in, odlaw_number_in, .func (PySem.W.fnOf "_law_number_in" "_law_number_in" (defArgs s_law_number_in) (defBody s_law_number_in) (defScope s_law_number_in) .none kVlaw_number_in dclaw_number_in pmlaw_number_in anlaw_number_in cdlaw_number_in ctlaw_number_in), sllaw_number_in⟩)
    (claw_number_in : PySem.W.codeIn K cdlaw_number_in "_law_number_in" = true)
    (klaw_number_in : PySem.W.keepIn K (.ref flaw_number_in) = true)
    (llaw_row_in : K.lookup flaw_row_in = some ⟨oclaw_row_in, odlaw_row_in, .func (PySem.W.fnOf "_law_row_in" "_law_row_in" (defArgs s_law_row_in) (defBody s_law_row_in) (defScope s_law_row_in) .none kVlaw_row_in dclaw_row_in pmlaw_row_in anlaw_row_in cdlaw_row_in ctlaw_row_in), sllaw_row_in⟩)
    (claw_row_in : PySem.W.codeIn K cdlaw_row_in "_law_row_in" = true)
    (klaw_row_in : PySem.W.keepIn K (.ref flaw_row_in) = true)
    (llaw_line_of : K.lookup flaw_line_of = some ⟨oclaw_line_of, odlaw_line_of, .func (PySem.W.fnOf "_law_line_of" "_law_line_of" (defArgs s_law_line_of) (defBody s_law_line_of) (defScope s_law_line_of) .none kVlaw_line_of dclaw_line_of pmlaw_line_of anlaw_line_of cdlaw_line_of ctlaw_line_of), sllaw_line_of⟩)
    (claw_line_of : PySem.W.codeIn K cdlaw_line_of "_law_line_of" = true)
    (klaw_line_of : PySem.W.keepIn K (.ref flaw_line_of) = true)
    (llaw_met : K.lookup flaw_met = some ⟨oclaw_met, odlaw_met, .func (PySem.W.fnOf "_law_met" "_law_met" (defArgs s_law_met) (defBody s_law_met) (defScope s_law_met) .none kVlaw_met dclaw_met pmlaw_met anlaw_met cdlaw_met ctlaw_met), sllaw_met⟩)
    (claw_met : PySem.W.codeIn K cdlaw_met "_law_met" = true)
    (klaw_met : PySem.W.keepIn K (.ref flaw_met) = true)
    (llaw_bent : K.lookup flaw_bent = some ⟨oclaw_bent, odlaw_bent, .func (PySem.W.fnOf "_law_bent" "_law_bent" (defArgs s_law_bent) (defBody s_law_bent) (defScope s_law_bent) .none kVlaw_bent dclaw_bent pmlaw_bent anlaw_bent cdlaw_bent ctlaw_bent), sllaw_bent⟩)
    (claw_bent : PySem.W.codeIn K cdlaw_bent "_law_bent" = true)
    (klaw_bent : PySem.W.keepIn K (.ref flaw_bent) = true)
    (llaw_is_short : K.lookup flaw_is_short = some ⟨oclaw_is_short, odlaw_is_short, .func (PySem.W.fnOf "_law_is_short" "_law_is_short" (defArgs s_law_is_short) (defBody s_law_is_short) (defScope s_law_is_short) .none kVlaw_is_short dclaw_is_short pmlaw_is_short anlaw_is_short cdlaw_is_short ctlaw_is_short), sllaw_is_short⟩)
    (claw_is_short : PySem.W.codeIn K cdlaw_is_short "_law_is_short" = true)
    (klaw_is_short : PySem.W.keepIn K (.ref flaw_is_short) = true)
    (llaw : K.lookup flaw = some ⟨oclaw, odlaw, .func (PySem.W.fnOf "law" "law" (defArgs s_law) (defBody s_law) (defScope s_law) .none kVlaw dclaw pmlaw anlaw cdlaw ctlaw), sllaw⟩)
    (claw : PySem.W.codeIn K cdlaw "law" = true)
    (klaw : PySem.W.keepIn K (.ref flaw) = true)
    (llaw_draw : K.lookup flaw_draw = some ⟨oclaw_draw, odlaw_draw, .func (PySem.W.fnOf "_law_draw" "_law_draw" (defArgs K17x.sDraw) (defBody K17x.sDraw) (defScope K17x.sDraw) .none kVlaw_draw dclaw_draw pmlaw_draw anlaw_draw cdlaw_draw ctlaw_draw), sllaw_draw⟩)
    (claw_draw : PySem.W.codeIn K cdlaw_draw "_law_draw" = true)
    (klaw_draw : PySem.W.keepIn K (.ref flaw_draw) = true)
    (llaw_pot : K.lookup flaw_pot = some ⟨oclaw_pot, odlaw_pot, .func (PySem.W.fnOf "_law_pot" "_law_pot" (defArgs K17x.sPot) (defBody K17x.sPot) (defScope K17x.sPot) .none kVlaw_pot dclaw_pot pmlaw_pot anlaw_pot cdlaw_pot ctlaw_pot), sllaw_pot⟩)
    (claw_pot : PySem.W.codeIn K cdlaw_pot "_law_pot" = true)
    (klaw_pot : PySem.W.keepIn K (.ref flaw_pot) = true)
    (linit : K.lookup finit = some ⟨ocinit, odinit, .func (PySem.W.fnOf "__init__" "Schema.__init__" (defArgs s_init) (defBody s_init) (defScope s_init) .none kVinit dcinit pminit aninit cdinit ctinit), slinit⟩)
    (cinit : PySem.W.codeIn K cdinit "Schema.__init__" = true)
    (kinit : PySem.W.keepIn K (.ref finit) = true)
    (lslen : K.lookup fslen = some ⟨ocslen, odslen, .func (PySem.W.fnOf "__len__" "Schema.__len__" (defArgs s_slen) (defBody s_slen) (defScope s_slen) .none kVslen dcslen pmslen anslen cdslen ctslen), slslen⟩)
    (cslen : PySem.W.codeIn K cdslen "Schema.__len__" = true)
    (kslen : PySem.W.keepIn K (.ref fslen) = true)
    (lsflds : K.lookup fsflds = some ⟨ocsflds, odsflds, .func (PySem.W.fnOf "fields" "Schema.fields" (defArgs s_sflds) (defBody s_sflds) (defScope s_sflds) .none kVsflds dcsflds pmsflds ansflds cdsflds ctsflds), slsflds⟩)
    (csflds : PySem.W.codeIn K cdsflds "Schema.fields" = true)
    (ksflds : PySem.W.keepIn K (.ref fsflds) = true)
    (iinit : PySem.W.isFn K (.ref finit) = true)
    (islen : PySem.W.isFn K (.ref fslen) = true)
    (isflds : PySem.W.isFn K (.ref fsflds) = true)
    (zlen : PySem.W.nsIn K mainGlobals "len" = some none)
    (zisinstance : PySem.W.nsIn K mainGlobals "isinstance" = some none)
    (zstr : PySem.W.nsIn K mainGlobals "str" = some none)
    (zint : PySem.W.nsIn K mainGlobals "int" = some none)
    (zbool : PySem.W.nsIn K mainGlobals "bool" = some none)
    (zlist : PySem.W.nsIn K mainGlobals "list" = some none)
    (ztuple : PySem.W.nsIn K mainGlobals "tuple" = some none)
    (zdict : PySem.W.nsIn K mainGlobals "dict" = some none)
    (zall : PySem.W.nsIn K mainGlobals "all" = some none)
    (zany : PySem.W.nsIn K mainGlobals "any" = some none)
    (zmax : PySem.W.nsIn K mainGlobals "max" = some none)
    (zmin : PySem.W.nsIn K mainGlobals "min" = some none)
    (zsum : PySem.W.nsIn K mainGlobals "sum" = some none)
    (zabs : PySem.W.nsIn K mainGlobals "abs" = some none)
    (zdivmod : PySem.W.nsIn K mainGlobals "divmod" = some none)
    (zrange : PySem.W.nsIn K mainGlobals "range" = some none)
    (zrepr : PySem.W.nsIn K mainGlobals "repr" = some none)
    (zzip : PySem.W.nsIn K mainGlobals "zip" = some none)
    (zenumerate : PySem.W.nsIn K mainGlobals "enumerate" = some none)
    (zsorted : PySem.W.nsIn K mainGlobals "sorted" = some none)
    (y1 : PySem.W.nsIn K mainGlobals "LETTERS" = some (some (.str abc t1)))
    (y2 : PySem.W.nsIn K mainGlobals "MOST_LETTERS" = some (some (.int 8 t2)))
    (y3 : PySem.W.nsIn K mainGlobals "COUNTER" = some (some (.str "counter" t3)))
    (y4 : PySem.W.nsIn K mainGlobals "KINDS" = some (some (.ref kt)))
    (y5 : K.lookup kt = some ⟨.type "tuple", ddk, .seq #[.str "mine" q1, .str "theirs" q2, .str "counter" q3] nk, slk⟩)
    (w_DIGITS : PySem.W.nsIn K mainGlobals "DIGITS" = some (some (.str "0123456789" tg_DIGITS)))
    (g1 : PySem.W.plainGet K C Str.empty = true)
    (g2 : PySem.W.hasDictIn K C = true)
    (g3 : PySem.W.plainOver K C = true)
    (g4 : PySem.W.findIn K (.ref C) "__setattr__" = some (some (.builtin "object.__setattr__")))
    (g5 : PySem.W.findIn K (.ref C) "rows" = some none)
    (g6 : PySem.W.makesIn K C = true)
    (g7 : PySem.W.keepIn K (.ref C) = true)
    (g8 : PySem.W.readsIn K C (.type "type") = true)
    (g9 : PySem.W.specialIn K (.ref C) "__getattribute__" = some (some (.builtin "type.__getattribute__")))
    (g10 : PySem.W.findCls K (.ref C) (.type "type") "MOST_LABELS" = some (.val (.int 12 tL)))
    (g11 : PySem.W.findCls K (.ref C) (.type "type") "MOST_COUNTERS" = some (.val (.int 4 tC)))
    (a_InvalidCommand : PySem.W.nsIn K mainGlobals "InvalidCommand" = some (some (.ref D_InvalidCommand)))
    (a_InvalidSchema : PySem.W.nsIn K mainGlobals "InvalidSchema" = some (some (.ref D_InvalidSchema)))
    (a_InvalidText : PySem.W.nsIn K mainGlobals "InvalidText" = some (some (.ref D_InvalidText)))
    (a_InvalidVersion : PySem.W.nsIn K mainGlobals "InvalidVersion" = some (some (.ref D_InvalidVersion)))
    (a_MergeError : PySem.W.nsIn K mainGlobals "MergeError" = some (some (.ref D_MergeError)))
    (ka_InvalidText_InvalidVersion_InvalidCommand_InvalidSchema : PySem.W.kitAny K (.ref D_InvalidText) [(.ref D_InvalidVersion), (.ref D_InvalidCommand), (.ref D_InvalidSchema)] = some false)
    (ki_InvalidText_MergeError : PySem.W.kitOne K (.ref D_InvalidText) (.ref D_MergeError) = some true)
    (no_InvalidText_line : PySem.W.findIn K (.ref D_InvalidText) "line" = some none)
    (no_InvalidVersion_version : PySem.W.findIn K (.ref D_InvalidVersion) "version" = some none)
    (tE_InvalidText : PySem.W.exmOne K (.ref D_InvalidText) (.ref D_InvalidText) = some true)
    (tE_InvalidVersion : PySem.W.exmOne K (.ref D_InvalidVersion) (.ref D_InvalidVersion) = some true)
    (x1_InvalidText : PySem.W.findIn K (.ref D_InvalidText) "__getattribute__" = some (some (.builtin "BaseException.__getattribute__")))
    (x2_InvalidText : PySem.W.findIn K (.ref D_InvalidText) "__getattr__" = some none)
    (x3_InvalidText : PySem.W.subIn K (.ref D_InvalidText) (.type "BaseException") = some true)
    (x4_InvalidText : PySem.W.hasDictIn K D_InvalidText = true)
    (x1_InvalidVersion : PySem.W.findIn K (.ref D_InvalidVersion) "__getattribute__" = some (some (.builtin "BaseException.__getattribute__")))
    (x2_InvalidVersion : PySem.W.findIn K (.ref D_InvalidVersion) "__getattr__" = some none)
    (x3_InvalidVersion : PySem.W.subIn K (.ref D_InvalidVersion) (.type "BaseException") = some true)
    (x4_InvalidVersion : PySem.W.hasDictIn K D_InvalidVersion = true)
    (x5_InvalidText : PySem.W.findIn K (.ref D_InvalidText) "__class__" = some (some (.builtin "object.__class__")))
    (x8_InvalidText : PySem.W.mroIn K D_InvalidText (.type "object") = some true)
    (x6 : PySem.W.specialIn K (.builtin "object.__class__") "__get__" = some (some (.builtin "getset_descriptor.__get__")))
    (x7 : PySem.W.takesIn K (.builtin "object.__class__") = some true)
    (akept : PySem.W.nsIn K mainGlobals "kept" = some (some (.ref fkept)))
    (lkept : K.lookup fkept = some ⟨ocK, odK, .func (PySem.W.fnOf "kept" "kept" (defArgs sKept) (defBody sKept) (defScope sKept) (.ref tpK) kVK dcK pmK anK cdK ctK), slK⟩)
    (ckept : PySem.W.codeIn K cdK "kept" = true)
    (kkept : PySem.W.keepIn K (.ref fkept) = true)
    (tkept : K.lookup tpK = some ⟨ocT, odT, .seq #[.int 5 tkT] nT, slT⟩)
    (zsuper : PySem.W.nsIn K mainGlobals "super" = some none)
    (ezopq : PySem.W.nsIn K cStatics "thirdparty.any" = some none)
    (e1_InvalidText : K.lookup D_InvalidText = some (excClassObj nm_InvalidText q_InvalidText D_InvalidText N_InvalidText bs_InvalidText bm_InvalidText true sn_InvalidText sub_InvalidText ab_InvalidText col_InvalidText dd_InvalidText k0_InvalidText k1_InvalidText k2_InvalidText k3_InvalidText k5_InvalidText "ValueError.__new__"))
    (e2_InvalidText : Kx.overB (Kx.tailOf "ValueError") bm_InvalidText = true)
    (e3_InvalidText : PySem.W.findIn K (.ref D_InvalidText) "__setattr__" = some (some (.builtin "object.__setattr__")))
    (e4_InvalidText : PySem.W.subIn K (.ref D_InvalidText) (.type "BaseException") = some true)
    (e5_InvalidText : PySem.W.typeIn K (.ref D_InvalidText) = some (.type "type"))
    (e6_InvalidText : PySem.W.keepIn K (.ref D_InvalidText) = true)
    (e7_InvalidText : PySem.W.findIn K (.ref D_InvalidText) "__init__" = some (some (.ref fi_InvalidText)))
    (e8_InvalidText : PySem.W.typeIn K (.ref fi_InvalidText) = some (.type "function"))
    (e9_InvalidText : K.lookup fi_InvalidText = some ⟨oi_InvalidText, di_InvalidText, .func (PySem.W.ksFn "__init__" "InvalidText.__init__" (defArgs sI_InvalidText) (defBody sI_InvalidText) (defScope sI_InvalidText) .none kv_InvalidText dc_InvalidText pm_InvalidText an_InvalidText (.ref cda_InvalidText) ct_InvalidText cc_InvalidText), si_InvalidText⟩)
    (eA_InvalidText : PySem.W.codeIn K (.ref cda_InvalidText) "InvalidText.__init__" = true)
    (eB_InvalidText : K.lookup cda_InvalidText = some ⟨ol_InvalidText, dl_InvalidText, .fields vs_InvalidText, sl_InvalidText⟩)
    (eC_InvalidText : vs_InvalidText[2]? = some (.str file_InvalidText tf_InvalidText))
    (eD_InvalidText : ((l.prog.main.file : Str) == file_InvalidText) = true)
    (eE_InvalidText : K.lookup cc_InvalidText = some ⟨oe_InvalidText, de_InvalidText, .cell (some (.ref D_InvalidText)), se_InvalidText⟩)
    (eF_InvalidText : (l.prog.main.scope.names.lookup ("super" : Str)).isSome = false)
    (eG_InvalidText : PySem.W.ks_superIn K D_InvalidText D_InvalidText "__init__" = some (some (.builtin "ValueError.__init__")))
    (eH_InvalidText : PySem.W.mroIn K D_InvalidText (.ref D_InvalidText) = some true)
    (eI_InvalidText : PySem.W.subIn K (.ref D_InvalidText) (.type "ValueError") = some true)
    (eJ_InvalidText : PySem.W.findIn K (.ref D_InvalidText) "line" = some none)
    (e1_InvalidVersion : K.lookup D_InvalidVersion = some (excClassObj nm_InvalidVersion q_InvalidVersion D_InvalidVersion N_InvalidVersion bs_InvalidVersion bm_InvalidVersion true sn_InvalidVersion sub_InvalidVersion ab_InvalidVersion col_InvalidVersion dd_InvalidVersion k0_InvalidVersion k1_InvalidVersion k2_InvalidVersion k3_InvalidVersion k5_InvalidVersion "ValueError.__new__"))
    (e2_InvalidVersion : Kx.overB (Kx.tailOf "ValueError") bm_InvalidVersion = true)
    (e3_InvalidVersion : PySem.W.findIn K (.ref D_InvalidVersion) "__setattr__" = some (some (.builtin "object.__setattr__")))
    (e4_InvalidVersion : PySem.W.subIn K (.ref D_InvalidVersion) (.type "BaseException") = some true)
    (e5_InvalidVersion : PySem.W.typeIn K (.ref D_InvalidVersion) = some (.type "type"))
    (e6_InvalidVersion : PySem.W.keepIn K (.ref D_InvalidVersion) = true)
    (e7_InvalidVersion : PySem.W.findIn K (.ref D_InvalidVersion) "__init__" = some (some (.ref fi_InvalidVersion)))
    (e8_InvalidVersion : PySem.W.typeIn K (.ref fi_InvalidVersion) = some (.type "function"))
    (e9_InvalidVersion : K.lookup fi_InvalidVersion = some ⟨oi_InvalidVersion, di_InvalidVersion, .func (PySem.W.ksFn "__init__" "InvalidVersion.__init__" (defArgs sI_InvalidVersion) (defBody sI_InvalidVersion) (defScope sI_InvalidVersion) .none kv_InvalidVersion dc_InvalidVersion pm_InvalidVersion an_InvalidVersion (.ref cda_InvalidVersion) ct_InvalidVersion cc_InvalidVersion), si_InvalidVersion⟩)
    (eA_InvalidVersion : PySem.W.codeIn K (.ref cda_InvalidVersion) "InvalidVersion.__init__" = true)
    (eB_InvalidVersion : K.lookup cda_InvalidVersion = some ⟨ol_InvalidVersion, dl_InvalidVersion, .fields vs_InvalidVersion, sl_InvalidVersion⟩)
    (eC_InvalidVersion : vs_InvalidVersion[2]? = some (.str file_InvalidVersion tf_InvalidVersion))
    (eD_InvalidVersion : ((l.prog.main.file : Str) == file_InvalidVersion) = true)
    (eE_InvalidVersion : K.lookup cc_InvalidVersion = some ⟨oe_InvalidVersion, de_InvalidVersion, .cell (some (.ref D_InvalidVersion)), se_InvalidVersion⟩)
    (eF_InvalidVersion : (l.prog.main.scope.names.lookup ("super" : Str)).isSome = false)
    (eG_InvalidVersion : PySem.W.ks_superIn K D_InvalidVersion D_InvalidVersion "__init__" = some (some (.builtin "ValueError.__init__")))
    (eH_InvalidVersion : PySem.W.mroIn K D_InvalidVersion (.ref D_InvalidVersion) = some true)
    (eI_InvalidVersion : PySem.W.subIn K (.ref D_InvalidVersion) (.type "ValueError") = some true)
    (eJ_InvalidVersion : PySem.W.findIn K (.ref D_InvalidVersion) "version" = some none)
    : ∃ fd : FuncData, (∀ (s : Shared) (v : Value), BindsTo s fd ⟨[v], []⟩ [("_law_script", v)]) ∧ ∀ base : Heap, K.In base → base.Ns mainGlobals mg → (∃ o, base.get? sysModules = some o) → FnG l.prog w K mg base CX0 11 fa fd ["_law_script"] (spLaw K) := by
  have e := hfa.symm.trans (PySem.W.mg_of X G alaw)
  cases e
  have Fis_name := fun_mk (st := s_is_name) lis_name cis_name kis_name
  have bis_name := Fis_name.binds (ps := ["thing"]) fun _ _ _ _ _ _ us hl => match us, hl with | [_], _ => rfl
  have Fis_whole_number := fun_mk (st := s_is_whole_number) lis_whole_number cis_whole_number kis_whole_number
  have bis_whole_number := Fis_whole_number.binds (ps := ["thing"]) fun _ _ _ _ _ _ us hl => match us, hl with | [_], _ => rfl
  have Fis_field := fun_mk (st := s_is_field) lis_field cis_field kis_field
  have bis_field := Fis_field.binds (ps := ["thing"]) fun _ _ _ _ _ _ us hl => match us, hl with | [_], _ => rfl
  have Ffield_problem := fun_mk (st := s_field_problem) lfield_problem cfield_problem kfield_problem
  have bfield_problem := Ffield_problem.binds (ps := ["field", "earlier"]) fun _ _ _ _ _ _ us hl => match us, hl with | [_, _], _ => rfl
  have Fis_value := fun_mk (st := s_is_value) lis_value cis_value kis_value
  have bis_value := Fis_value.binds (ps := ["kind", "thing"]) fun _ _ _ _ _ _ us hl => match us, hl with | [_, _], _ => rfl
  have Fis_version := fun_mk (st := s_is_version) lis_version cis_version kis_version
  have bis_version := Fis_version.binds (ps := ["schema", "thing"]) fun _ _ _ _ _ _ us hl => match us, hl with | [_, _], _ => rfl
  have Fnumber_text := fun_mk (st := s_number_text) lnumber_text cnumber_text knumber_text
  have bnumber_text := Fnumber_text.binds (ps := ["number"]) fun _ _ _ _ _ _ us hl => match us, hl with | [_], _ => rfl
  have Fis_number_text := fun_mk (st := s_is_number_text) lis_number_text cis_number_text kis_number_text
  have bis_number_text := Fis_number_text.binds (ps := ["text"]) fun _ _ _ _ _ _ us hl => match us, hl with | [_], _ => rfl
  have Fnumber_of := fun_mk (st := s_number_of) lnumber_of cnumber_of knumber_of
  have bnumber_of := Fnumber_of.binds (ps := ["text"]) fun _ _ _ _ _ _ us hl => match us, hl with | [_], _ => rfl
  have Fvalue_text := fun_mk (st := s_value_text) lvalue_text cvalue_text kvalue_text
  have bvalue_text := Fvalue_text.binds (ps := ["value"]) fun _ _ _ _ _ _ us hl => match us, hl with | [_], _ => rfl
  have Fread_value := fun_mk (st := s_read_value) lread_value cread_value kread_value
  have bread_value := Fread_value.binds (ps := ["word"]) fun _ _ _ _ _ _ us hl => match us, hl with | [_], _ => rfl
  have Fversion_text := fun_mk (st := s_version_text) lversion_text cversion_text kversion_text
  have bversion_text := Fversion_text.binds (ps := ["schema", "version"]) fun _ _ _ _ _ _ us hl => match us, hl with | [_, _], _ => rfl
  have Fread_version := fun_mk (st := s_read_version) lread_version cread_version kread_version
  have bread_version := Fread_version.binds (ps := ["schema", "text"]) fun _ _ _ _ _ _ us hl => match us, hl with | [_, _], _ => rfl
  have Flaw_word := fun_mk (st := s_law_word) llaw_word claw_word klaw_word
  have blaw_word := Flaw_word.binds (ps := ["_law_pot_here", "_law_taken"]) fun _ _ _ _ _ _ us hl => match us, hl with | [_, _], _ => rfl
  have Flaw_words := fun_mk (st := s_law_words) llaw_words claw_words klaw_words
  have blaw_words := Flaw_words.binds (ps := ["_law_pot_here", "_law_many"]) fun _ _ _ _ _ _ us hl => match us, hl with | [_, _], _ => rfl
  have Flaw_mixed := fun_mk (st := s_law_mixed) llaw_mixed claw_mixed klaw_mixed
  have blaw_mixed := Flaw_mixed.binds (ps := ["_law_pot_here", "_law_given"]) fun _ _ _ _ _ _ us hl => match us, hl with | [_, _], _ => rfl
  have Flaw_fields := fun_mk (st := s_law_fields) llaw_fields claw_fields klaw_fields
  have blaw_fields := Flaw_fields.binds (ps := ["_law_pot_here", "_law_marks", "_law_sums"]) fun _ _ _ _ _ _ us hl => match us, hl with | [_, _, _], _ => rfl
  have Flaw_step := fun_mk (st := s_law_step) llaw_step claw_step klaw_step
  have blaw_step := Flaw_step.binds (ps := ["_law_pot_here", "_law_far"]) fun _ _ _ _ _ _ us hl => match us, hl with | [_, _], _ => rfl
  have Flaw_plan := fun_mk (st := s_law_plan) llaw_plan claw_plan klaw_plan
  have blaw_plan := Flaw_plan.binds (ps := ["_law_pot_here", "_law_fields_here", "_law_far"]) fun _ _ _ _ _ _ us hl => match us, hl with | [_, _, _], _ => rfl
  have Flaw_row := fun_mk (st := s_law_row) llaw_row claw_row klaw_row
  have blaw_row := Flaw_row.binds (ps := ["_law_pot_here", "_law_fields_here", "_law_plan_here"]) fun _ _ _ _ _ _ us hl => match us, hl with | [_, _, _], _ => rfl
  have Flaw_rows := fun_mk (st := s_law_rows) llaw_rows claw_rows klaw_rows
  have blaw_rows := Flaw_rows.binds (ps := ["_law_pot_here", "_law_fields_here", "_law_most", "_law_far"]) fun _ _ _ _ _ _ us hl => match us, hl with | [_, _, _, _], _ => rfl
  have Flaw_is_int := fun_mk (st := s_law_is_int) llaw_is_int claw_is_int klaw_is_int
  have blaw_is_int := Flaw_is_int.binds (ps := ["_law_item"]) fun _ _ _ _ _ _ us hl => match us, hl with | [_], _ => rfl
  have Flaw_is_word := fun_mk (st := s_law_is_word) llaw_is_word claw_is_word klaw_is_word
  have blaw_is_word := Flaw_is_word.binds (ps := ["_law_item"]) fun _ _ _ _ _ _ us hl => match us, hl with | [_], _ => rfl
  have Flaw_is_row := fun_mk (st := s_law_is_row) llaw_is_row claw_is_row klaw_is_row
  have blaw_is_row := Flaw_is_row.binds (ps := ["_law_fields_here", "_law_item"]) fun _ _ _ _ _ _ us hl => match us, hl with | [_, _], _ => rfl
  have Flaw_some_fields := fun_mk (st := s_law_some_fields) llaw_some_fields claw_some_fields klaw_some_fields
  have blaw_some_fields := Flaw_some_fields.binds (ps := ["_law_pot_here"]) fun _ _ _ _ _ _ us hl => match us, hl with | [_], _ => rfl
  have Flaw_number_in := fun_mk (st := s_law_number_in) llaw_number_in claw_number_in klaw_number_in
  have blaw_number_in := Flaw_number_in.binds (ps := ["_law_part"]) fun _ _ _ _ _ _ us hl => match us, hl with | [_], _ => rfl
  have Flaw_row_in := fun_mk (st := s_law_row_in) llaw_row_in claw_row_in klaw_row_in
  have blaw_row_in := Flaw_row_in.binds (ps := ["_law_rows_here", "_law_note"]) fun _ _ _ _ _ _ us hl => match us, hl with | [_, _], _ => rfl
  have Flaw_line_of := fun_mk (st := s_law_line_of) llaw_line_of claw_line_of klaw_line_of
  have blaw_line_of := Flaw_line_of.binds (ps := ["_law_rows_here", "_law_row_here"]) fun _ _ _ _ _ _ us hl => match us, hl with | [_, _], _ => rfl
  have Flaw_met := fun_mk (st := s_law_met) llaw_met claw_met klaw_met
  have blaw_met := Flaw_met.binds (ps := ["_law_made", "_law_note"]) fun _ _ _ _ _ _ us hl => match us, hl with | [_, _], _ => rfl
  have Flaw_bent := fun_mk (st := s_law_bent) llaw_bent claw_bent klaw_bent
  have blaw_bent := Flaw_bent.binds (ps := ["_law_pot_here", "_law_note"]) fun _ _ _ _ _ _ us hl => match us, hl with | [_, _], _ => rfl
  have Flaw_is_short := fun_mk (st := s_law_is_short) llaw_is_short claw_is_short klaw_is_short
  have blaw_is_short := Flaw_is_short.binds (ps := ["_law_note"]) fun _ _ _ _ _ _ us hl => match us, hl with | [_], _ => rfl
  have Flaw := fun_mk (st := s_law) llaw claw klaw
  have blaw := Flaw.binds (ps := ["_law_script"]) fun _ _ _ _ _ _ us hl => match us, hl with | [_], _ => rfl
  have Flaw_draw := fun_mk (st := K17x.sDraw) llaw_draw claw_draw klaw_draw
  have blaw_draw := Flaw_draw.binds (ps := ["_law_pot_here", "_law_many"]) fun _ _ _ _ _ _ us hl => match us, hl with | [_, _], _ => rfl
  have Flaw_pot := fun_mk (st := K17x.sPot) llaw_pot claw_pot klaw_pot
  have blaw_pot := Flaw_pot.binds (ps := ["_law_script", "_law_k"]) fun _ _ _ _ _ _ us hl => match us, hl with | [_, _], _ => rfl
  have Finit := fun_mk (st := s_init) linit cinit kinit
  have binit := Finit.binds (ps := ["self", "fields"]) fun _ _ _ _ _ _ us hl => match us, hl with | [_, _], _ => rfl
  have Fslen := fun_mk (st := s_slen) lslen cslen kslen
  have bslen := Fslen.binds (ps := ["self"]) fun _ _ _ _ _ _ us hl => match us, hl with | [_], _ => rfl
  have Fsflds := fun_mk (st := s_sflds) lsflds csflds ksflds
  have bsflds := Fsflds.binds (ps := ["self"]) fun _ _ _ _ _ _ us hl => match us, hl with | [_], _ => rfl
  have T : Blt mg := ⟨PySem.W.mg_none_of X G zlen, PySem.W.mg_none_of X G zisinstance, PySem.W.mg_none_of X G zstr, PySem.W.mg_none_of X G zint, PySem.W.mg_none_of X G zbool, PySem.W.mg_none_of X G zlist, PySem.W.mg_none_of X G ztuple, PySem.W.mg_none_of X G zdict, PySem.W.mg_none_of X G zall, PySem.W.mg_none_of X G zany, PySem.W.mg_none_of X G zmax, PySem.W.mg_none_of X G zmin, PySem.W.mg_none_of X G zsum, PySem.W.mg_none_of X G zabs, PySem.W.mg_none_of X G zdivmod, PySem.W.mg_none_of X G zrange, PySem.W.mg_none_of X G zrepr, PySem.W.mg_none_of X G zzip, PySem.W.mg_none_of X G zenumerate, PySem.W.mg_none_of X G zsorted⟩
  have T0 : K17x.Tx mg := ⟨T.len, T.isinstance, T.str, T.all, T.max, T.min, T.abs, T.divmod, T.range, T.repr, T.list, T.tuple, T.zip, T.int, T.bool, T.dict, T.enumerate⟩
  have g_LETTERS : ∃ t, mg "LETTERS" = some (.str "abcdefghijklmnopqrstuvwxyz" t) := ⟨_, PySem.W.mg_of X G y1⟩
  have g_MOST_LETTERS : ∃ t, mg "MOST_LETTERS" = some (.int 8 t) := ⟨_, PySem.W.mg_of X G y2⟩
  have g_COUNTER : ∃ t, mg "COUNTER" = some (.str "counter" t) := ⟨_, PySem.W.mg_of X G y3⟩
  have g_KINDS : ∃ a, mg "KINDS" = some (.ref a) ∧ ∀ G, Rp K G (.ref a) (.tuple [.str "mine", .str "theirs", .str "counter"]) := ⟨kt, PySem.W.mg_of X G y4, fun H => .tup (xs := [.str "mine", .str "theirs", .str "counter"]) (.inr ⟨_, _, _, y5, rfl, rfl, (by show 3 ≤ sizeLine; decide), .cons ⟨_, rfl⟩ (.cons ⟨_, rfl⟩ (.cons ⟨_, rfl⟩ .nil))⟩) (.cons (.str _) (.cons (.str _) (.cons (.str _) .nil)))⟩
  have g_DIGITS : ∃ t, mg "DIGITS" = some (.str "0123456789" t) := ⟨_, PySem.W.mg_of X G w_DIGITS⟩
  have dF : FlS K C := ⟨⟨g1, g2, g3, g4⟩, g5⟩
  have dV : CvS K mg C := ⟨PySem.W.mg_of X G aC, .type "type", _, _, ⟨g8, g9⟩, ⟨g10, ⟨_, rfl⟩⟩, ⟨g11, ⟨_, rfl⟩⟩⟩
  refine ⟨PySem.W.fnOf "law" "law" (defArgs s_law) (defBody s_law) (defScope s_law) .none kVlaw dclaw pmlaw anlaw cdlaw ctlaw, fun s v => .of_eq rfl, fun base _ _ hM => ?_⟩
  have mE_InvalidCommand := PySem.W.mg_of X G a_InvalidCommand
  have mE_InvalidSchema := PySem.W.mg_of X G a_InvalidSchema
  have mE_InvalidText := PySem.W.mg_of X G a_InvalidText
  have mE_InvalidVersion := PySem.W.mg_of X G a_InvalidVersion
  have mE_MergeError := PySem.W.mg_of X G a_MergeError
  have ec_InvalidText : ExcC K D_InvalidText := ⟨x1_InvalidText, x2_InvalidText, x3_InvalidText, x4_InvalidText, x5_InvalidText, x6, x7, x8_InvalidText⟩
  have xf_InvalidText : XfC K D_InvalidText := ⟨x1_InvalidText, x2_InvalidText, x3_InvalidText, x4_InvalidText⟩
  have xf_InvalidVersion : XfC K D_InvalidVersion := ⟨x1_InvalidVersion, x2_InvalidVersion, x3_InvalidVersion, x4_InvalidVersion⟩
  have FK := keptD lkept ckept kkept tkept
  have TK : TkE mg := ⟨T.isinstance, T.list, T.tuple, T.dict, PySem.W.mg_none_of X G zsuper⟩
  have O_InvalidText : OexB K D_InvalidText "ValueError" "ValueError.__new__" "ValueError.__init__" (tailOf "ValueError") := ⟨basV, ⟨_, _, _, _, _, _, _, _, _, _, _, _, _, _, _, e1_InvalidText, over_of e2_InvalidText⟩, e3_InvalidText, e4_InvalidText, e5_InvalidText, e6_InvalidText⟩
  have W_InvalidText := initW_InvalidText (P := l.prog) e9_InvalidText eA_InvalidText eB_InvalidText eC_InvalidText eD_InvalidText eE_InvalidText eF_InvalidText eG_InvalidText eH_InvalidText eI_InvalidText ezopq
  have dE_InvalidText := er_InvalidText (P := l.prog) (w := w) (base := base) FK (PySem.W.mg_of X G akept) TK W_InvalidText O_InvalidText mE_InvalidText e7_InvalidText e8_InvalidText eJ_InvalidText
  have O_InvalidVersion : OexB K D_InvalidVersion "ValueError" "ValueError.__new__" "ValueError.__init__" (tailOf "ValueError") := ⟨basV, ⟨_, _, _, _, _, _, _, _, _, _, _, _, _, _, _, e1_InvalidVersion, over_of e2_InvalidVersion⟩, e3_InvalidVersion, e4_InvalidVersion, e5_InvalidVersion, e6_InvalidVersion⟩
  have W_InvalidVersion := initW_InvalidVersion (P := l.prog) e9_InvalidVersion eA_InvalidVersion eB_InvalidVersion eC_InvalidVersion eD_InvalidVersion eE_InvalidVersion eF_InvalidVersion eG_InvalidVersion eH_InvalidVersion eI_InvalidVersion ezopq
  have dE_InvalidVersion := er_InvalidVersion (P := l.prog) (w := w) (base := base) FK (PySem.W.mg_of X G akept) TK T W_InvalidVersion O_InvalidVersion mE_InvalidVersion e7_InvalidVersion e8_InvalidVersion eJ_InvalidVersion
  have d__law_draw : DefO l.prog w K mg base "_law_draw" ["_law_pot_here", "_law_many"] 1 F_draw := ⟨⟨_, _, okCX (FnOk.imp (K17x.ok_draw (k := 0) Flaw_draw T0) fun vs H Q E h => draw_of h), PySem.W.mg_of X G alaw_draw, klaw_draw, blaw_draw⟩⟩
  have d__law_pot : DefO l.prog w K mg base "_law_pot" ["_law_script", "_law_k"] 1 F_pot := ⟨⟨_, _, okCX (FnOk.imp (K17x.ok_pot (k := 0) Flaw_pot T0) fun vs H Q E h => pot_of h), PySem.W.mg_of X G alaw_pot, klaw_pot, blaw_pot⟩⟩
  have d_is_name : DefO l.prog w K mg base "is_name" ["thing"] 1 F_nameA := ⟨⟨_, _, fnTo (P := l.prog) (w := w) (mg := mg) (base := base) (F := F_nameA) Fis_name sc_is_name (tr_is_name T g_LETTERS g_MOST_LETTERS) imp_nameA, PySem.W.mg_of X G ais_name, kis_name, bis_name⟩⟩
  have d_is_name_W : DefO l.prog w K mg base "is_name" ["thing"] 1 F_is_name := defO_imp nameA_of d_is_name
  have d_is_whole_number : DefO l.prog w K mg base "is_whole_number" ["thing"] 1 F_wholeA := ⟨⟨_, _, fnTo (P := l.prog) (w := w) (mg := mg) (base := base) (F := F_wholeA) Fis_whole_number sc_is_whole_number (tr_is_whole_number T) imp_wholeA, PySem.W.mg_of X G ais_whole_number, kis_whole_number, bis_whole_number⟩⟩
  have d_is_field : DefO l.prog w K mg base "is_field" ["thing"] 2 F_field := ⟨⟨_, _, fnTo (P := l.prog) (w := w) (mg := mg) (base := base) (F := F_field) Fis_field sc_is_field (tr_is_field T g_KINDS d_is_name_W) imp_field, PySem.W.mg_of X G ais_field, kis_field, bis_field⟩⟩
  have d_field_problem : DefO l.prog w K mg base "field_problem" ["field", "earlier"] 3 F_problem := ⟨⟨_, _, fnTo (P := l.prog) (w := w) (mg := mg) (base := base) (F := F_problem) Ffield_problem sc_field_problem (tr_field_problem (C := C) T dV g_COUNTER d_is_field) (imp_problem C), PySem.W.mg_of X G afield_problem, kfield_problem, bfield_problem⟩⟩
  have okI := fnInit (P := l.prog) (w := w) (mg := mg) (base := base) (C := C) (F := F_init) Finit sc_init (tr_init (C := C) T dF d_field_problem) imp_init
  have okL := fnTo (P := l.prog) (w := w) (mg := mg) (base := base) (F := F_slen C) Fslen sc_slen (tr_slen (C := C) T dF) (imp_slen C)
  have okF := fnTo (P := l.prog) (w := w) (mg := mg) (base := base) (F := F_sflds C) Fsflds sc_sflds (tr_sflds (C := C) T dF) (imp_sflds C)
  have dS : SchM l.prog w K mg base C := ⟨dF.cl, dV.mgC, ⟨_, _, ⟨g6, ainit, iinit, g7⟩, okI, binit⟩, ⟨_, _, aslen, islen, okL, bslen⟩, ⟨_, _, ⟨asflds, isflds, ksflds⟩, okF, bsflds⟩⟩
  have d_is_value : DefO l.prog w K mg base "is_value" ["kind", "thing"] 2 F_valueA := ⟨⟨_, _, fnTo (P := l.prog) (w := w) (mg := mg) (base := base) (F := F_valueA) Fis_value sc_is_value (tr_is_value T g_COUNTER d_is_whole_number d_is_name) imp_valueA, PySem.W.mg_of X G ais_value, kis_value, bis_value⟩⟩
  have d_is_version : DefO l.prog w K mg base "is_version" ["schema", "thing"] 3 (F_versionA C) := ⟨⟨_, _, fnTo (P := l.prog) (w := w) (mg := mg) (base := base) (F := (F_versionA C)) Fis_version sc_is_version (tr_is_version (C := C) T dS d_is_value) (imp_versionA C), PySem.W.mg_of X G ais_version, kis_version, bis_version⟩⟩
  have d_number_text : DefO l.prog w K mg base "number_text" ["number"] 1 F_numT := ⟨⟨_, _, fnTo (P := l.prog) (w := w) (mg := mg) (base := base) (F := F_numT) Fnumber_text sc_number_text (tr_number_text T g_DIGITS) imp_numT, PySem.W.mg_of X G anumber_text, knumber_text, bnumber_text⟩⟩
  have d_is_number_text : DefO l.prog w K mg base "is_number_text" ["text"] 1 F_isNum := ⟨⟨_, _, fnTo (P := l.prog) (w := w) (mg := mg) (base := base) (F := F_isNum) Fis_number_text sc_is_number_text (tr_is_number_text T g_DIGITS) imp_isNum, PySem.W.mg_of X G ais_number_text, kis_number_text, bis_number_text⟩⟩
  have d_number_of : DefO l.prog w K mg base "number_of" ["text"] 1 F_numOf := ⟨⟨_, _, fnTo (P := l.prog) (w := w) (mg := mg) (base := base) (F := F_numOf) Fnumber_of sc_number_of (tr_number_of T g_DIGITS) imp_numOf, PySem.W.mg_of X G anumber_of, knumber_of, bnumber_of⟩⟩
  have d_value_text : DefO l.prog w K mg base "value_text" ["value"] 2 F_valT := ⟨⟨_, _, fnTo (P := l.prog) (w := w) (mg := mg) (base := base) (F := F_valT) Fvalue_text sc_value_text (tr_value_text T d_number_text) imp_valT, PySem.W.mg_of X G avalue_text, kvalue_text, bvalue_text⟩⟩
  have d_read_value : DefO l.prog w K mg base "read_value" ["word"] 2 F_readV := ⟨⟨_, _, fnTo (P := l.prog) (w := w) (mg := mg) (base := base) (F := F_readV) Fread_value sc_read_value (tr_read_value T d_is_number_text d_number_of) imp_readV, PySem.W.mg_of X G aread_value, kread_value, bread_value⟩⟩
  have ok_version_text := fnTo (P := l.prog) (w := w) (mg := mg) (base := base) (F := (F_verTX C D_InvalidVersion)) Fversion_text sc_version_text (tr_version_text (C := C) T d_is_version d_value_text dE_InvalidVersion) (imp_verTX C _)
  have d_version_text : DefO l.prog w K mg base "version_text" ["schema", "version"] 10 (F_verTX C D_InvalidVersion) := ⟨⟨_, _, ok_version_text, PySem.W.mg_of X G aversion_text, kversion_text, bversion_text⟩⟩
  have dk_version_text : DefK l.prog w K mg base "version_text" "schema" "version" 10 (F_verTX C D_InvalidVersion) := defK_of ok_version_text (PySem.W.mg_of X G aversion_text) kversion_text fun s u v => .of_eq rfl
  have ok_read_version := fnTo (P := l.prog) (w := w) (mg := mg) (base := base) (F := (F_readX C D_InvalidText)) Fread_version sc_read_version (tr_read_version (C := C) T d_read_value d_is_version dE_InvalidText) (imp_readX C _)
  have d_read_version : DefO l.prog w K mg base "read_version" ["schema", "text"] 4 (F_readX C D_InvalidText) := ⟨⟨_, _, ok_read_version, PySem.W.mg_of X G aread_version, kread_version, bread_version⟩⟩
  have dk_read_version : DefK l.prog w K mg base "read_version" "schema" "text" 4 (F_readX C D_InvalidText) := defK_of ok_read_version (PySem.W.mg_of X G aread_version) kread_version fun s u v => .of_eq rfl
  have d__law_word : DefO l.prog w K mg base "_law_word" ["_law_pot_here", "_law_taken"] 2 F_word := ⟨⟨_, _, fnTo (P := l.prog) (w := w) (mg := mg) (base := base) (F := F_word) Flaw_word sc_law_word (tr_law_word T d__law_draw) imp_word, PySem.W.mg_of X G alaw_word, klaw_word, blaw_word⟩⟩
  have d__law_words : DefO l.prog w K mg base "_law_words" ["_law_pot_here", "_law_many"] 3 F_words := ⟨⟨_, _, fnTo (P := l.prog) (w := w) (mg := mg) (base := base) (F := F_words) Flaw_words sc_law_words (tr_law_words T d__law_word) imp_words, PySem.W.mg_of X G alaw_words, klaw_words, blaw_words⟩⟩
  have d__law_mixed : DefO l.prog w K mg base "_law_mixed" ["_law_pot_here", "_law_given"] 2 F_mixed := ⟨⟨_, _, fnTo (P := l.prog) (w := w) (mg := mg) (base := base) (F := F_mixed) Flaw_mixed sc_law_mixed (tr_law_mixed T d__law_draw) imp_mixed, PySem.W.mg_of X G alaw_mixed, klaw_mixed, blaw_mixed⟩⟩
  have d__law_fields : DefO l.prog w K mg base "_law_fields" ["_law_pot_here", "_law_marks", "_law_sums"] 4 F_fields := ⟨⟨_, _, fnTo (P := l.prog) (w := w) (mg := mg) (base := base) (F := F_fields) Flaw_fields sc_law_fields (tr_law_fields T d__law_draw d__law_mixed d__law_words) imp_fields, PySem.W.mg_of X G alaw_fields, klaw_fields, blaw_fields⟩⟩
  have d__law_step : DefO l.prog w K mg base "_law_step" ["_law_pot_here", "_law_far"] 2 F_step := ⟨⟨_, _, fnTo (P := l.prog) (w := w) (mg := mg) (base := base) (F := F_step) Flaw_step sc_law_step (tr_law_step T d__law_draw) imp_step, PySem.W.mg_of X G alaw_step, klaw_step, blaw_step⟩⟩
  have d__law_plan : DefO l.prog w K mg base "_law_plan" ["_law_pot_here", "_law_fields_here", "_law_far"] 4 F_plan := ⟨⟨_, _, fnTo (P := l.prog) (w := w) (mg := mg) (base := base) (F := F_plan) Flaw_plan sc_law_plan (tr_law_plan T d__law_draw d__law_step d__law_words) imp_plan, PySem.W.mg_of X G alaw_plan, klaw_plan, blaw_plan⟩⟩
  have d__law_row : DefO l.prog w K mg base "_law_row" ["_law_pot_here", "_law_fields_here", "_law_plan_here"] 2 F_row := ⟨⟨_, _, fnTo (P := l.prog) (w := w) (mg := mg) (base := base) (F := F_row) Flaw_row sc_law_row (tr_law_row T d__law_draw) imp_row, PySem.W.mg_of X G alaw_row, klaw_row, blaw_row⟩⟩
  have d__law_rows : DefO l.prog w K mg base "_law_rows" ["_law_pot_here", "_law_fields_here", "_law_most", "_law_far"] 5 F_rows := ⟨⟨_, _, fnTo (P := l.prog) (w := w) (mg := mg) (base := base) (F := F_rows) Flaw_rows sc_law_rows (tr_law_rows T d__law_plan d__law_draw d__law_row) imp_rows, PySem.W.mg_of X G alaw_rows, klaw_rows, blaw_rows⟩⟩
  have d__law_is_int : DefO l.prog w K mg base "_law_is_int" ["_law_item"] 1 F_wholeA := ⟨⟨_, _, fnTo (P := l.prog) (w := w) (mg := mg) (base := base) (F := F_wholeA) Flaw_is_int sc_law_is_int (tr_law_is_int T) imp_lint, PySem.W.mg_of X G alaw_is_int, klaw_is_int, blaw_is_int⟩⟩
  have d__law_is_word : DefO l.prog w K mg base "_law_is_word" ["_law_item"] 1 F_nameA := ⟨⟨_, _, fnTo (P := l.prog) (w := w) (mg := mg) (base := base) (F := F_nameA) Flaw_is_word sc_law_is_word (tr_law_is_word T) imp_lword, PySem.W.mg_of X G alaw_is_word, klaw_is_word, blaw_is_word⟩⟩
  have d__law_is_row : DefO l.prog w K mg base "_law_is_row" ["_law_fields_here", "_law_item"] 2 F_rowA := ⟨⟨_, _, fnTo (P := l.prog) (w := w) (mg := mg) (base := base) (F := F_rowA) Flaw_is_row sc_law_is_row (tr_law_is_row T d__law_is_int d__law_is_word) imp_lrow, PySem.W.mg_of X G alaw_is_row, klaw_is_row, blaw_is_row⟩⟩
  have d__law_some_fields : DefO l.prog w K mg base "_law_some_fields" ["_law_pot_here"] 5 F_somef := ⟨⟨_, _, fnTo (P := l.prog) (w := w) (mg := mg) (base := base) (F := F_somef) Flaw_some_fields sc_law_some_fields (tr_law_some_fields T d__law_draw d__law_fields) imp_somef, PySem.W.mg_of X G alaw_some_fields, klaw_some_fields, blaw_some_fields⟩⟩
  have d__law_number_in : DefO l.prog w K mg base "_law_number_in" ["_law_part"] 1 F_numIn := ⟨⟨_, _, fnTo (P := l.prog) (w := w) (mg := mg) (base := base) (F := F_numIn) Flaw_number_in sc_law_number_in (tr_law_number_in T) imp_numIn, PySem.W.mg_of X G alaw_number_in, klaw_number_in, blaw_number_in⟩⟩
  have d__law_row_in : DefO l.prog w K mg base "_law_row_in" ["_law_rows_here", "_law_note"] 3 F_rowIn := ⟨⟨_, _, fnTo (P := l.prog) (w := w) (mg := mg) (base := base) (F := F_rowIn) Flaw_row_in sc_law_row_in (tr_law_row_in T d__law_number_in d__law_is_row) imp_rowIn, PySem.W.mg_of X G alaw_row_in, klaw_row_in, blaw_row_in⟩⟩
  have d__law_line_of : DefO l.prog w K mg base "_law_line_of" ["_law_rows_here", "_law_row_here"] 1 F_lineOf := ⟨⟨_, _, fnTo (P := l.prog) (w := w) (mg := mg) (base := base) (F := F_lineOf) Flaw_line_of sc_law_line_of (tr_law_line_of T) imp_lineOf, PySem.W.mg_of X G alaw_line_of, klaw_line_of, blaw_line_of⟩⟩
  have d__law_met : DefO l.prog w K mg base "_law_met" ["_law_made", "_law_note"] 5 (F_met17 C) := ⟨⟨_, _, fnTo (P := l.prog) (w := w) (mg := mg) (base := base) (F := (F_met17 C)) Flaw_met sc_law_met (tr_law_met (C := C) T d_read_version mE_InvalidText tE_InvalidText ec_InvalidText mE_InvalidVersion mE_InvalidCommand mE_InvalidSchema ka_InvalidText_InvalidVersion_InvalidCommand_InvalidSchema mE_MergeError ki_InvalidText_MergeError xf_InvalidText no_InvalidText_line) (imp_met17 C _), PySem.W.mg_of X G alaw_met, klaw_met, blaw_met⟩⟩
  have d__law_bent : DefO l.prog w K mg base "_law_bent" ["_law_pot_here", "_law_note"] 2 F_bent17 := ⟨⟨_, _, fnTo (P := l.prog) (w := w) (mg := mg) (base := base) (F := F_bent17) Flaw_bent sc_law_bent (tr_law_bent T d__law_draw) imp_bent, PySem.W.mg_of X G alaw_bent, klaw_bent, blaw_bent⟩⟩
  have d__law_is_short : DefO l.prog w K mg base "_law_is_short" ["_law_note"] 1 F_short := ⟨⟨_, _, fnTo (P := l.prog) (w := w) (mg := mg) (base := base) (F := F_short) Flaw_is_short sc_law_is_short (tr_law_is_short T) imp_short, PySem.W.mg_of X G alaw_is_short, klaw_is_short, blaw_is_short⟩⟩
  exact calmG (fnT (P := l.prog) (w := w) (mg := mg) (base := base) (F := F_law) Flaw sc_law (tr_law (C := C) T dS d__law_pot d__law_some_fields d__law_rows d__law_draw d__law_line_of d_read_version d_version_text d__law_is_int d__law_bent d__law_row_in d__law_met d__law_is_short mE_InvalidVersion tE_InvalidVersion hM dk_read_version dk_version_text xf_InvalidVersion no_InvalidVersion_version) (imp_law17 C _ _))
end K17
set_option Elab.async false
set_option linter.all false
set_option maxRecDepth 100000
namespace Kx
open PySem PySem.Spec PyProof.Rows L2
section
variable {P : Program} {w : World} {K : PySem.W.Frag} {mg mb : Str → Option Value}
theorem law_callM {CX : CXT} {k : Nat} {fa a : Addr} {fd : FuncData} {x : Str} {sp : Sp} {s₁ : Shared} {vs : List Value} {ns : List Int}
    (KX : K.In s₁.heap) (gl : s₁.heap.Ns mainGlobals mg) (bl : s₁.heap.Ns builtinsNs mb)
    (boot : ∀ x : Str, x ≠ "__name__" → mb x = bootBuiltins x) (lim : s₁.heap.NoLimit) (sm : ∃ mm, s₁.heap.Ns sysModules mm) (hg : s₁.gens = #[])
    (ha : s₁.heap.get? a = some { cls := .type "list", data := .seq vs.toArray }) (hi : IntsAre vs ns) (hl : ns.length ≤ sizeLine)
    (room : Room k callerA)
    (F : ∀ base : Heap, K.In base → base.Ns mainGlobals mg → (∃ o, base.get? sysModules = some o) → FnG P w K mg base CX k fa fd [x] sp)
    (bind : ∀ (s : Shared) (u : Value), BindsTo s fd ⟨[u], []⟩ [(x, u)])
    (want : ∀ H : Hp, Only H → SqL K H a (ns.map V.int) → sp [.ref a] H (fun v _ => v = .bl true) fun _ _ _ => False)
    (noX : ∀ H e s', CX [] H s₁ (fun _ _ _ => False) e s' → False) :
    codeAny (model P w) callerA (.call (.ref fa) ⟨[.ref a], []⟩)
      (fun r s' => r = .ok (.ret (.bool true)) ∧ OldK s₁.heap s'.heap ∧ s'.os = s₁.os ∧ AllBare s'.gens) s₁ := by
  have rv := vals_ints hi
  have ln := hi.length
  have main : ∀ H : Hp, Only H → SqL K H a (ns.map V.int) → HOk P w H s₁.heap → (∀ b, H b ≠ none → b = a) → (H a ≠ none → K.lookup a = none) →
      codeAny (model P w) callerA (.call (.ref fa) ⟨[.ref a], []⟩)
        (fun r s' => r = .ok (.ret (.bool true)) ∧ OldK s₁.heap s'.heap ∧ s'.os = s₁.os ∧ AllBare s'.gens) s₁ := by
    intro H only seq hok hA hK
    have stays : ∀ {b : Addr} {o : Obj}, s₁.heap.get? b = some o → H b = none → (hidT s₁.heap H).get? b = some o :=
      fun e n => hidT_get e n
    have notA : ∀ {b : Addr} {o : Obj} {es : Array DictEntry} {ep : Nat}, s₁.heap.get? b = some o → o.data = .dict es ep → H b = none := by
      intro b o es ep e dd
      refine Classical.byContradiction fun nn => ?_
      have ba := hA b nn
      subst ba
      rw [ha] at e
      cases e
      cases (show Data.seq vs.toArray _ = Data.dict es ep from dd)
    have nsK : ∀ {b : Addr} {m : Str → Option Value}, s₁.heap.Ns b m → (hidT s₁.heap H).Ns b m := by
      rintro b m ⟨o, es, ep, e, dd, r⟩
      exact ⟨o, es, ep, stays e (notA e dd), dd, r⟩
    have kb : K.In (hidT s₁.heap H) := by
      intro b o e
      refine stays (KX b o e) (Classical.byContradiction fun nn => ?_)
      have ba := hA b nn
      subst ba
      rw [hK nn] at e
      cases e
    have md : Mod K mg (hidT s₁.heap H) := by
      obtain ⟨mc, l1, l2⟩ := lim
      exact ⟨kb, nsK gl, ⟨mb, nsK bl, boot⟩, ⟨mc, nsK l1, l2⟩⟩
    have en : Env0 P w K mg (hidT s₁.heap H) callerA [] s₁ H :=
      { frames := rfl, mod := md, bs := fun b o e => of_hidT e, bsz := Nat.le_of_eq (hidT_size _ _), funs := trivial,
        frf := (fun b hb => nomatch (show b ∈ ([] : List Addr) from hb)), hok := hok, bare := .of_eq hg }
    have run := (F _ kb (nsK gl) (by obtain ⟨mm, q⟩ := sm; obtain ⟨o, es, ep, e, _⟩ := nsK q; exact ⟨o, e⟩)).goes callerA [] s₁ H ⟨[.ref a], []⟩ [.ref a] [.ref a] _ _ rfl room en (bind s₁ (.ref a)) (.cons rfl .nil) (want H only seq)
    refine codeAny_mono run fun r s' got => ?_
    match r, got with
    | .error e, got => exact (noX H e s' got).elim
    | .ok (.ret u), got =>
      obtain ⟨v, H', os, bare, un, hok', r', q⟩ := got
      cases (show v = .bl true from q)
      cases (show u = Value.bool true from r')
      refine ⟨rfl, OldK.of_keep (fun b o e => ?_), os, bare⟩
      cases q : H b with
      | none => exact un.keep b o e q (fun z => nomatch (show b ∈ ([] : List Addr) from z)) (by simp)
      | some u =>
        rcases only b with z | ⟨ob, xs, z⟩
        · rw [q] at z
          cases z
        · obtain ⟨e1, _⟩ := hok b _ z
          obtain ⟨e2, _⟩ := hok' b _ (un.frzs b ob _ z)
          rw [e] at e1
          cases e1
          exact e2
  cases lk : K.lookup a with
  | some o =>
    have e := KX a o lk
    rw [ha] at e
    cases e
    refine main (fun _ => none) (fun _ => .inl rfl) (.inr ⟨_, vs.toArray, _, lk, rfl, rfl, rfl, ?_, ?_⟩) (fun b u z => nomatch (show (none : Option HO) = some u from z)) (fun b z => absurd rfl z) fun z => absurd rfl z
    · rw [List.size_toArray, ln]
      exact hl
    · simpa using rv
  | none =>
    have at_ : ∀ {b : Addr} {y : Option HO}, (if b = a then some (HO.frz { cls := .type "list", data := .seq vs.toArray } (.lst (ns.map V.int))) else none) = y →
        (b = a ∧ y = some (HO.frz { cls := .type "list", data := .seq vs.toArray } (.lst (ns.map V.int)))) ∨ (b ≠ a ∧ y = none) := by
      intro b y e
      by_cases c : b = a
      · rw [if_pos c] at e
        exact .inl ⟨c, e.symm⟩
      · rw [if_neg c] at e
        exact .inr ⟨c, e.symm⟩
    refine main (fun b => if b = a then some (.frz { cls := .type "list", data := .seq vs.toArray } (.lst (ns.map V.int))) else none) (fun b => ?_) (.inl (.inr ⟨_, if_pos rfl⟩)) (fun b u z => ?_) (fun b z => ?_) fun _ => lk
    · rcases at_ (b := b) rfl with ⟨_, e⟩ | ⟨_, e⟩
      · exact .inr ⟨_, _, e⟩
      · exact .inl e
    · rcases at_ z with ⟨c, e⟩ | ⟨_, e⟩
      · subst c
        cases e
        exact ⟨ha, (List.length_map ..).symm ▸ hl, vs, _, rv, ha⟩
      · cases e
    · rcases at_ (b := b) rfl with ⟨c, _⟩ | ⟨_, e⟩
      · exact c
      · exact absurd e z
end
theorem walk_M {l : PySem.W.OpenLaw} {n k : Nat} {q : Program} {loose : List Str} {XP : (Str → Option Value) → Heap → Prop}
    {YP : World → Heap → Prop} {d : DefRec} {K : Params → PySem.W.Frag} {CX : CXT} {sp : PySem.W.Frag → Sp} {x : Str}
    (hq : importsNone q = true) (hn : l.most = some n) (hn2 : n ≤ sizeLine) (hdf : d.params.defaults = []) (room : Room k callerA)
    (hY : ∀ (w : World) (hp : Heap), YP w hp → (K w.params).In hp)
    (F : ∀ (w : World) (mg : Str → Option Value) (fa : Addr) (hp : Heap), (K w.params).In hp → hp.Ns mainGlobals mg → mg d.name = some (.ref fa) → ∃ fd : FuncData,
      (∀ (sh : Shared) (u : Value), BindsTo sh fd ⟨[u], []⟩ [(x, u)]) ∧ ∀ base : Heap, (K w.params).In base → base.Ns mainGlobals mg → (∃ o, base.get? sysModules = some o) → FnG l.prog w (K w.params) mg base CX k fa fd [x] (sp (K w.params)))
    (want : ∀ (K : PySem.W.Frag) (H : Hp) (a : Addr) (ns : List Int), ns.length ≤ n → Only H → SqL K H a (ns.map V.int) →
      sp K [.ref a] H (fun v _ => v = .bl true) fun _ _ _ => False)
    (noX : ∀ (H : Hp) (s : Shared) (e : Value) (s' : Shared), CX [] H s (fun _ _ _ => False) e s' → False) : PySem.W.WalkO q loose XP YP l.row.toRowW d [] (fun f vs => PySem.call f vs) := by
  refine Att.attach_call hn hdf fun w _ s₁ mg _ fa _ _ _ _ a vs ns G Y _ _ _ hmg hobj hints hlen hg => ?_
  obtain ⟨fd, hb, hF⟩ := F w mg fa _ (hY w _ Y) G.T.g hmg
  exact law_callM (hY w _ Y) G.T.g G.T.b G.T.builtins G.T.nolimit (let ⟨mm, q, _⟩ := (G.T.seer hq).mods; ⟨mm, q⟩) hg hobj hints (Nat.le_trans hlen hn2) room hF hb (fun H hO hS => want _ H a ns hlen hO hS) fun H e s' => noX H s₁ e s'
end Kx
set_option Elab.async false
set_option linter.all false
set_option maxRecDepth 100000
open PySem PySem.W PyProof.Rows
set_option maxHeartbeats 0 in
theorem PySem.Challenge.cw_mergereach_k17_whole_version_texts_holds : PySem.Challenge.rw_mergereach_k17_whole_version_texts.Holds := by
  w_on; o_law; k_head; (case hw => w_witness2)
  k_fill
  refine Kx.walk_M (l := PySem.Challenge.rw_mergereach_k17_whole_version_texts) (n := 63) (k := 11) (x := "_law_script") (CX := L2.CX0) (sp := K17.spLaw) (by first | rfl | decide +kernel | (with_unfolding_all rfl)) rfl (by decide) rfl ⟨rfl, by decide, by decide⟩ (fun w h Y => PySem.W.kIn_of Y) ?F (fun K H a ns _ _ hS => K17.want_law K H a ns hS) (fun _ _ _ _ h => h)
  case F =>
    intro w mg fa h KX G hmg
    refine' K17.all_mk KX G hmg ?ais_name ?ais_whole_number ?ais_field ?afield_problem ?ais_value ?ais_version ?anumber_text ?ais_number_text ?anumber_of ?avalue_text ?aread_value ?aversion_text ?aread_version ?alaw_word ?alaw_words ?alaw_mixed ?alaw_fields ?alaw_step ?alaw_plan ?alaw_row ?alaw_rows ?alaw_is_int ?alaw_is_word ?alaw_is_row ?alaw_some_fields ?alaw_number_in ?alaw_row_in ?alaw_line_of ?alaw_met ?alaw_bent ?alaw_is_short ?alaw ?alaw_draw ?alaw_pot ?aC ?ainit ?aslen ?asflds ?lis_name ?cis_name ?kis_name ?lis_whole_number ?cis_whole_number ?kis_whole_number ?lis_field ?cis_field ?kis_field ?lfield_problem ?cfield_problem ?kfield_problem ?lis_value ?cis_value ?kis_value ?lis_version ?cis_version ?kis_version ?lnumber_text ?cnumber_text ?knumber_text ?lis_number_text ?cis_number_text ?kis_number_text ?lnumber_of ?cnumber_of ?knumber_of ?lvalue_text ?cvalue_text ?kvalue_text ?lread_value ?cread_value ?kread_value ?lversion_text ?cversion_text ?kversion_text ?lread_version ?cread_version ?kread_version ?llaw_word ?claw_word ?klaw_word ?llaw_words ?claw_words ?klaw_words ?llaw_mixed ?claw_mixed ?klaw_mixed ?llaw_fields ?claw_fields ?klaw_fields ?llaw_step ?claw_step ?klaw_step ?llaw_plan ?claw_plan ?klaw_plan ?llaw_row ?claw_row ?klaw_row ?llaw_rows ?claw_rows ?klaw_rows ?llaw_is_int ?claw_is_int ?klaw_is_int ?llaw_is_word ?claw_is_word ?klaw_is_word ?llaw_is_row ?claw_is_row ?klaw_is_row ?llaw_some_fields ?claw_some_fields ?klaw_some_fields ?llaw_number_in ?claw_number_in ?klaw_number_in ?llaw_row_in ?claw_row_in ?klaw_row_in ?llaw_line_of ?claw_line_of ?klaw_line_of ?llaw_met ?claw_met ?klaw_met ?llaw_bent ?claw_bent ?klaw_bent ?llaw_is_short ?claw_is_short ?klaw_is_short ?llaw ?claw ?klaw ?llaw_draw ?claw_draw ?klaw_draw ?llaw_pot ?claw_pot ?klaw_pot ?linit ?cinit ?kinit ?lslen ?cslen ?kslen ?lsflds ?csflds ?ksflds ?iinit ?islen ?isflds ?zlen ?zisinstance ?zstr ?zint ?zbool ?zlist ?ztuple ?zdict ?zall ?zany ?zmax ?zmin ?zsum ?zabs ?zdivmod ?zrange ?zrepr ?zzip ?zenumerate ?zsorted ?y1 ?y2 ?y3 ?y4 ?y5 ?w_DIGITS ?g1 ?g2 ?g3 ?g4 ?g5 ?g6 ?g7 ?g8 ?g9 ?g10 ?g11 ?a_InvalidCommand ?a_InvalidSchema ?a_InvalidText ?a_InvalidVersion ?a_MergeError ?ka_InvalidText_InvalidVersion_InvalidCommand_InvalidSchema ?ki_InvalidText_MergeError ?no_InvalidText_line ?no_InvalidVersion_version ?tE_InvalidText ?tE_InvalidVersion ?x1_InvalidText ?x2_InvalidText ?x3_InvalidText ?x4_InvalidText ?x1_InvalidVersion ?x2_InvalidVersion ?x3_InvalidVersion ?x4_InvalidVersion ?x5_InvalidText ?x8_InvalidText ?x6 ?x7 ?akept ?lkept ?ckept ?kkept ?tkept ?zsuper ?ezopq ?e1_InvalidText ?e2_InvalidText ?e3_InvalidText ?e4_InvalidText ?e5_InvalidText ?e6_InvalidText ?e7_InvalidText ?e8_InvalidText ?e9_InvalidText ?eA_InvalidText ?eB_InvalidText ?eC_InvalidText ?eD_InvalidText ?eE_InvalidText ?eF_InvalidText ?eG_InvalidText ?eH_InvalidText ?eI_InvalidText ?eJ_InvalidText ?e1_InvalidVersion ?e2_InvalidVersion ?e3_InvalidVersion ?e4_InvalidVersion ?e5_InvalidVersion ?e6_InvalidVersion ?e7_InvalidVersion ?e8_InvalidVersion ?e9_InvalidVersion ?eA_InvalidVersion ?eB_InvalidVersion ?eC_InvalidVersion ?eD_InvalidVersion ?eE_InvalidVersion ?eF_InvalidVersion ?eG_InvalidVersion ?eH_InvalidVersion ?eI_InvalidVersion ?eJ_InvalidVersion
    (case ais_name => first | k_is | kit_is | ks_is | kts_exm | rfl | decide +kernel)
    (case ais_whole_number => first | k_is | kit_is | ks_is | kts_exm | rfl | decide +kernel)
    (case ais_field => first | k_is | kit_is | ks_is | kts_exm | rfl | decide +kernel)
    (case afield_problem => first | k_is | kit_is | ks_is | kts_exm | rfl | decide +kernel)
    (case ais_value => first | k_is | kit_is | ks_is | kts_exm | rfl | decide +kernel)
    (case ais_version => first | k_is | kit_is | ks_is | kts_exm | rfl | decide +kernel)
    (case anumber_text => first | k_is | kit_is | ks_is | kts_exm | rfl | decide +kernel)
    (case ais_number_text => first | k_is | kit_is | ks_is | kts_exm | rfl | decide +kernel)
    (case anumber_of => first | k_is | kit_is | ks_is | kts_exm | rfl | decide +kernel)
    (case avalue_text => first | k_is | kit_is | ks_is | kts_exm | rfl | decide +kernel)
    (case aread_value => first | k_is | kit_is | ks_is | kts_exm | rfl | decide +kernel)
    (case aversion_text => first | k_is | kit_is | ks_is | kts_exm | rfl | decide +kernel)
    (case aread_version => first | k_is | kit_is | ks_is | kts_exm | rfl | decide +kernel)
    (case alaw_word => first | k_is | kit_is | ks_is | kts_exm | rfl | decide +kernel)
    (case alaw_words => first | k_is | kit_is | ks_is | kts_exm | rfl | decide +kernel)
    (case alaw_mixed => first | k_is | kit_is | ks_is | kts_exm | rfl | decide +kernel)
    (case alaw_fields => first | k_is | kit_is | ks_is | kts_exm | rfl | decide +kernel)
    (case alaw_step => first | k_is | kit_is | ks_is | kts_exm | rfl | decide +kernel)
    (case alaw_plan => first | k_is | kit_is | ks_is | kts_exm | rfl | decide +kernel)
    (case alaw_row => first | k_is | kit_is | ks_is | kts_exm | rfl | decide +kernel)
    (case alaw_rows => first | k_is | kit_is | ks_is | kts_exm | rfl | decide +kernel)
    (case alaw_is_int => first | k_is | kit_is | ks_is | kts_exm | rfl | decide +kernel)
    (case alaw_is_word => first | k_is | kit_is | ks_is | kts_exm | rfl | decide +kernel)
    (case alaw_is_row => first | k_is | kit_is | ks_is | kts_exm | rfl | decide +kernel)
    (case alaw_some_fields => first | k_is | kit_is | ks_is | kts_exm | rfl | decide +kernel)
    (case alaw_number_in => first | k_is | kit_is | ks_is | kts_exm | rfl | decide +kernel)
    (case alaw_row_in => first | k_is | kit_is | ks_is | kts_exm | rfl | decide +kernel)
    (case alaw_line_of => first | k_is | kit_is | ks_is | kts_exm | rfl | decide +kernel)
    (case alaw_met => first | k_is | kit_is | ks_is | kts_exm | rfl | decide +kernel)
    (case alaw_bent => first | k_is | kit_is | ks_is | kts_exm | rfl | decide +kernel)
    (case alaw_is_short => first | k_is | kit_is | ks_is | kts_exm | rfl | decide +kernel)
    (case alaw => k_is)
    (case alaw_draw => first | k_is | kit_is | ks_is | kts_exm | rfl | decide +kernel)
    (case alaw_pot => first | k_is | kit_is | ks_is | kts_exm | rfl | decide +kernel)
    (case aC => k_is)
    (case ainit => k_is)
    (case aslen => k_is)
    (case asflds => k_is)
    (case lis_name => first | k_is | kit_is | ks_is | kts_exm | rfl | decide +kernel)
    (case cis_name => first | k_is | kit_is | ks_is | kts_exm | rfl | decide +kernel)
    (case kis_name => first | k_is | kit_is | ks_is | kts_exm | rfl | decide +kernel)
    (case lis_whole_number => first | k_is | kit_is | ks_is | kts_exm | rfl | decide +kernel)
    (case cis_whole_number => first | k_is | kit_is | ks_is | kts_exm | rfl | decide +kernel)
    (case kis_whole_number => first | k_is | kit_is | ks_is | kts_exm | rfl | decide +kernel)
    (case lis_field => first | k_is | kit_is | ks_is | kts_exm | rfl | decide +kernel)
    (case cis_field => first | k_is | kit_is | ks_is | kts_exm | rfl | decide +kernel)
    (case kis_field => first | k_is | kit_is | ks_is | kts_exm | rfl | decide +kernel)
    (case lfield_problem => first | k_is | kit_is | ks_is | kts_exm | rfl | decide +kernel)
    (case cfield_problem => first | k_is | kit_is | ks_is | kts_exm | rfl | decide +kernel)
    (case kfield_problem => first | k_is | kit_is | ks_is | kts_exm | rfl | decide +kernel)
    (case lis_value => first | k_is | kit_is | ks_is | kts_exm | rfl | decide +kernel)
    (case cis_value => first | k_is | kit_is | ks_is | kts_exm | rfl | decide +kernel)
    (case kis_value => first | k_is | kit_is | ks_is | kts_exm | rfl | decide +kernel)
    (case lis_version => first | k_is | kit_is | ks_is | kts_exm | rfl | decide +kernel)
    (case cis_version => first | k_is | kit_is | ks_is | kts_exm | rfl | decide +kernel)
    (case kis_version => first | k_is | kit_is | ks_is | kts_exm | rfl | decide +kernel)
    (case lnumber_text => first | k_is | kit_is | ks_is | kts_exm | rfl | decide +kernel)
    (case cnumber_text => first | k_is | kit_is | ks_is | kts_exm | rfl | decide +kernel)
    (case knumber_text => first | k_is | kit_is | ks_is | kts_exm | rfl | decide +kernel)
    (case lis_number_text => first | k_is | kit_is | ks_is | kts_exm | rfl | decide +kernel)
    (case cis_number_text => first | k_is | kit_is | ks_is | kts_exm | rfl | decide +kernel)
    (case kis_number_text => first | k_is | kit_is | ks_is | kts_exm | rfl | decide +kernel)
    (case lnumber_of => first | k_is | kit_is | ks_is | kts_exm | rfl | decide +kernel)
    (case cnumber_of => first | k_is | kit_is | ks_is | kts_exm | rfl | decide +kernel)
    (case knumber_of => first | k_is | kit_is | ks_is | kts_exm | rfl | decide +kernel)
    (case lvalue_text => first | k_is | kit_is | ks_is | kts_exm | rfl | decide +kernel)
    (case cvalue_text => first | k_is | kit_is | ks_is | kts_exm | rfl | decide +kernel)
    (case kvalue_text => first | k_is | kit_is | ks_is | kts_exm | rfl | decide +kernel)
    (case lread_value => first | k_is | kit_is | ks_is | kts_exm | rfl | decide +kernel)
    (case cread_value => first | k_is | kit_is | ks_is | kts_exm | rfl | decide +kernel)
    (case kread_value => first | k_is | kit_is | ks_is | kts_exm | rfl | decide +kernel)
    (case lversion_text => first | k_is | kit_is | ks_is | kts_exm | rfl | decide +kernel)
    (case cversion_text => first | k_is | kit_is | ks_is | kts_exm | rfl | decide +kernel)
    (case kversion_text => first | k_is | kit_is | ks_is | kts_exm | rfl | decide +kernel)
    (case lread_version => first | k_is | kit_is | ks_is | kts_exm | rfl | decide +kernel)
    (case cread_version => first | k_is | kit_is | ks_is | kts_exm | rfl | decide +kernel)
    (case kread_version => first | k_is | kit_is | ks_is | kts_exm | rfl | decide +kernel)
    (case llaw_word => first | k_is | kit_is | ks_is | kts_exm | rfl | decide +kernel)
    (case claw_word => first | k_is | kit_is | ks_is | kts_exm | rfl | decide +kernel)
    (case klaw_word => first | k_is | kit_is | ks_is | kts_exm | rfl | decide +kernel)
    (case llaw_words => first | k_is | kit_is | ks_is | kts_exm | rfl | decide +kernel)
    (case claw_words => first | k_is | kit_is | ks_is | kts_exm | rfl | decide +kernel)
    (case klaw_words => first | k_is | kit_is | ks_is | kts_exm | rfl | decide +kernel)
    (case llaw_mixed => first | k_is | kit_is | ks_is | kts_exm | rfl | decide +kernel)
    (case claw_mixed => first | k_is | kit_is | ks_is | kts_exm | rfl | decide +kernel)
    (case klaw_mixed => first | k_is | kit_is | ks_is | kts_exm | rfl | decide +kernel)
    (case llaw_fields => first | k_is | kit_is | ks_is | kts_exm | rfl | decide +kernel)
    (case claw_fields => first | k_is | kit_is | ks_is | kts_exm | rfl | decide +kernel)
    (case klaw_fields => first | k_is | kit_is | ks_is | kts_exm | rfl | decide +kernel)
    (case llaw_step => first | k_is | kit_is | ks_is | kts_exm | rfl | decide +kernel)
    (case claw_step => first | k_is | kit_is | ks_is | kts_exm | rfl | decide +kernel)
    (case klaw_step => first | k_is | kit_is | ks_is | kts_exm | rfl | decide +kernel)
    (case llaw_plan => first | k_is | kit_is | ks_is | kts_exm | rfl | decide +kernel)
    (case claw_plan => first | k_is | kit_is | ks_is | kts_exm | rfl | decide +kernel)
    (case klaw_plan => first | k_is | kit_is | ks_is | kts_exm | rfl | decide +kernel)
    (case llaw_row => first | k_is | kit_is | ks_is | kts_exm | rfl | decide +kernel)
    (case claw_row => first | k_is | kit_is | ks_is | kts_exm | rfl | decide +kernel)
    (case klaw_row => first | k_is | kit_is | ks_is | kts_exm | rfl | decide +kernel)
    (case llaw_rows => first | k_is | kit_is | ks_is | kts_exm | rfl | decide +kernel)
    (case claw_rows => first | k_is | kit_is | ks_is | kts_exm | rfl | decide +kernel)
    (case klaw_rows => first | k_is | kit_is | ks_is | kts_exm | rfl | decide +kernel)
    (case llaw_is_int => first | k_is | kit_is | ks_is | kts_exm | rfl | decide +kernel)
    (case claw_is_int => first | k_is | kit_is | ks_is | kts_exm | rfl | decide +kernel)
    (case klaw_is_int => first | k_is | kit_is | ks_is | kts_exm | rfl | decide +kernel)
    (case llaw_is_word => first | k_is | kit_is | ks_is | kts_exm | rfl | decide +kernel)
    (case claw_is_word => first | k_is | kit_is | ks_is | kts_exm | rfl | decide +kernel)
    (case klaw_is_word => first | k_is | kit_is | ks_is | kts_exm | rfl | decide +kernel)
    (case llaw_is_row => first | k_is | kit_is | ks_is | kts_exm | rfl | decide +kernel)
    (case claw_is_row => first | k_is | kit_is | ks_is | kts_exm | rfl | decide +kernel)
    (case klaw_is_row => first | k_is | kit_is | ks_is | kts_exm | rfl | decide +kernel)
    (case llaw_some_fields => first | k_is | kit_is | ks_is | kts_exm | rfl | decide +kernel)
    (case claw_some_fields => first | k_is | kit_is | ks_is | kts_exm | rfl | decide +kernel)
    (case klaw_some_fields => first | k_is | kit_is | ks_is | kts_exm | rfl | decide +kernel)
    (case llaw_number_in => first | k_is | kit_is | ks_is | kts_exm | rfl | decide +kernel)
    (case claw_number_in => first | k_is | kit_is | ks_is | kts_exm | rfl | decide +kernel)
    (case klaw_number_in => first | k_is | kit_is | ks_is | kts_exm | rfl | decide +kernel)
    (case llaw_row_in => first | k_is | kit_is | ks_is | kts_exm | rfl | decide +kernel)
    (case claw_row_in => first | k_is | kit_is | ks_is | kts_exm | rfl | decide +kernel)
    (case klaw_row_in => first | k_is | kit_is | ks_is | kts_exm | rfl | decide +kernel)
    (case llaw_line_of => first | k_is | kit_is | ks_is | kts_exm | rfl | decide +kernel)
    (case claw_line_of => first | k_is | kit_is | ks_is | kts_exm | rfl | decide +kernel)
    (case klaw_line_of => first | k_is | kit_is | ks_is | kts_exm | rfl | decide +kernel)
    (case llaw_met => first | k_is | kit_is | ks_is | kts_exm | rfl | decide +kernel)
    (case claw_met => first | k_is | kit_is | ks_is | kts_exm | rfl | decide +kernel)
    (case klaw_met => first | k_is | kit_is | ks_is | kts_exm | rfl | decide +kernel)
    (case llaw_bent => first | k_is | kit_is | ks_is | kts_exm | rfl | decide +kernel)
    (case claw_bent => first | k_is | kit_is | ks_is | kts_exm | rfl | decide +kernel)
    (case klaw_bent => first | k_is | kit_is | ks_is | kts_exm | rfl | decide +kernel)
    (case llaw_is_short => first | k_is | kit_is | ks_is | kts_exm | rfl | decide +kernel)
    (case claw_is_short => first | k_is | kit_is | ks_is | kts_exm | rfl | decide +kernel)
    (case klaw_is_short => first | k_is | kit_is | ks_is | kts_exm | rfl | decide +kernel)
    (case llaw => k_is)
    (case claw => k_is)
    (case klaw => k_is)
    (case llaw_draw => first | k_is | kit_is | ks_is | kts_exm | rfl | decide +kernel)
    (case claw_draw => first | k_is | kit_is | ks_is | kts_exm | rfl | decide +kernel)
    (case klaw_draw => first | k_is | kit_is | ks_is | kts_exm | rfl | decide +kernel)
    (case llaw_pot => first | k_is | kit_is | ks_is | kts_exm | rfl | decide +kernel)
    (case claw_pot => first | k_is | kit_is | ks_is | kts_exm | rfl | decide +kernel)
    (case klaw_pot => first | k_is | kit_is | ks_is | kts_exm | rfl | decide +kernel)
    (case linit => k_is)
    (case cinit => k_is)
    (case kinit => k_is)
    (case lslen => k_is)
    (case cslen => k_is)
    (case kslen => k_is)
    (case lsflds => k_is)
    (case csflds => k_is)
    (case ksflds => k_is)
    (case iinit => k_is)
    (case islen => k_is)
    (case isflds => k_is)
    (case zlen => k_is)
    (case zisinstance => k_is)
    (case zstr => k_is)
    (case zint => k_is)
    (case zbool => k_is)
    (case zlist => k_is)
    (case ztuple => k_is)
    (case zdict => k_is)
    (case zall => k_is)
    (case zany => k_is)
    (case zmax => k_is)
    (case zmin => k_is)
    (case zsum => k_is)
    (case zabs => k_is)
    (case zdivmod => k_is)
    (case zrange => k_is)
    (case zrepr => k_is)
    (case zzip => k_is)
    (case zenumerate => k_is)
    (case zsorted => k_is)
    (case y1 => k_is)
    (case y2 => k_is)
    (case y3 => k_is)
    (case y4 => k_is)
    (case y5 => k_is)
    (case w_DIGITS => k_is)
    (case g1 => k_is)
    (case g2 => k_is)
    (case g3 => k_is)
    (case g4 => k_is)
    (case g5 => k_is)
    (case g6 => k_is)
    (case g7 => k_is)
    (case g8 => k_is)
    (case g9 => k_is)
    (case g10 => k_is)
    (case g11 => k_is)
    (case a_InvalidCommand => first | k_is | kit_is | ks_is | kts_exm | rfl | decide +kernel)
    (case a_InvalidSchema => first | k_is | kit_is | ks_is | kts_exm | rfl | decide +kernel)
    (case a_InvalidText => first | k_is | kit_is | ks_is | kts_exm | rfl | decide +kernel)
    (case a_InvalidVersion => first | k_is | kit_is | ks_is | kts_exm | rfl | decide +kernel)
    (case a_MergeError => first | k_is | kit_is | ks_is | kts_exm | rfl | decide +kernel)
    (case ka_InvalidText_InvalidVersion_InvalidCommand_InvalidSchema => first | k_is | kit_is | ks_is | kts_exm | rfl | decide +kernel)
    (case ki_InvalidText_MergeError => first | k_is | kit_is | ks_is | kts_exm | rfl | decide +kernel)
    (case no_InvalidText_line => first | k_is | kit_is | ks_is | kts_exm | rfl | decide +kernel)
    (case no_InvalidVersion_version => first | k_is | kit_is | ks_is | kts_exm | rfl | decide +kernel)
    (case tE_InvalidText => first | k_is | kit_is | ks_is | kts_exm | rfl | decide +kernel)
    (case tE_InvalidVersion => first | k_is | kit_is | ks_is | kts_exm | rfl | decide +kernel)
    (case x1_InvalidText => first | k_is | kit_is | ks_is | kts_exm | rfl | decide +kernel)
    (case x2_InvalidText => first | k_is | kit_is | ks_is | kts_exm | rfl | decide +kernel)
    (case x3_InvalidText => first | k_is | kit_is | ks_is | kts_exm | rfl | decide +kernel)
    (case x4_InvalidText => first | k_is | kit_is | ks_is | kts_exm | rfl | decide +kernel)
    (case x1_InvalidVersion => first | k_is | kit_is | ks_is | kts_exm | rfl | decide +kernel)
    (case x2_InvalidVersion => first | k_is | kit_is | ks_is | kts_exm | rfl | decide +kernel)
    (case x3_InvalidVersion => first | k_is | kit_is | ks_is | kts_exm | rfl | decide +kernel)
    (case x4_InvalidVersion => first | k_is | kit_is | ks_is | kts_exm | rfl | decide +kernel)
    (case x5_InvalidText => first | k_is | kit_is | ks_is | kts_exm | rfl | decide +kernel)
    (case x8_InvalidText => first | k_is | kit_is | ks_is | kts_exm | rfl | decide +kernel)
    (case x6 => k_is)
    (case x7 => k_is)
    (case akept => k_is)
    (case lkept => k_is)
    (case ckept => k_is)
    (case kkept => k_is)
    (case tkept => k_is)
    (case zsuper => k_is)
    (case ezopq => k_is)
    (case e1_InvalidText => first | k_is | kit_is | ks_is | kts_exm | rfl | decide +kernel)
    (case e2_InvalidText => first | k_is | kit_is | ks_is | kts_exm | rfl | decide +kernel)
    (case e3_InvalidText => first | k_is | kit_is | ks_is | kts_exm | rfl | decide +kernel)
    (case e4_InvalidText => first | k_is | kit_is | ks_is | kts_exm | rfl | decide +kernel)
    (case e5_InvalidText => first | k_is | kit_is | ks_is | kts_exm | rfl | decide +kernel)
    (case e6_InvalidText => first | k_is | kit_is | ks_is | kts_exm | rfl | decide +kernel)
    (case e7_InvalidText => first | k_is | kit_is | ks_is | kts_exm | rfl | decide +kernel)
    (case e8_InvalidText => first | k_is | kit_is | ks_is | kts_exm | rfl | decide +kernel)
    (case e9_InvalidText => first | k_is | kit_is | ks_is | kts_exm | rfl | decide +kernel)
    (case eA_InvalidText => first | k_is | kit_is | ks_is | kts_exm | rfl | decide +kernel)
    (case eB_InvalidText => first | k_is | kit_is | ks_is | kts_exm | rfl | decide +kernel)
    (case eC_InvalidText => first | k_is | kit_is | ks_is | kts_exm | rfl | decide +kernel)
    (case eD_InvalidText => first | k_is | kit_is | ks_is | kts_exm | rfl | decide +kernel)
    (case eE_InvalidText => first | k_is | kit_is | ks_is | kts_exm | rfl | decide +kernel)
    (case eF_InvalidText => first | k_is | kit_is | ks_is | kts_exm | rfl | decide +kernel)
    (case eG_InvalidText => first | k_is | kit_is | ks_is | kts_exm | rfl | decide +kernel)
    (case eH_InvalidText => first | k_is | kit_is | ks_is | kts_exm | rfl | decide +kernel)
    (case eI_InvalidText => first | k_is | kit_is | ks_is | kts_exm | rfl | decide +kernel)
    (case eJ_InvalidText => first | k_is | kit_is | ks_is | kts_exm | rfl | decide +kernel)
    (case e1_InvalidVersion => first | k_is | kit_is | ks_is | kts_exm | rfl | decide +kernel)
    (case e2_InvalidVersion => first | k_is | kit_is | ks_is | kts_exm | rfl | decide +kernel)
    (case e3_InvalidVersion => first | k_is | kit_is | ks_is | kts_exm | rfl | decide +kernel)
    (case e4_InvalidVersion => first | k_is | kit_is | ks_is | kts_exm | rfl | decide +kernel)
    (case e5_InvalidVersion => first | k_is | kit_is | ks_is | kts_exm | rfl | decide +kernel)
    (case e6_InvalidVersion => first | k_is | kit_is | ks_is | kts_exm | rfl | decide +kernel)
    (case e7_InvalidVersion => first | k_is | kit_is | ks_is | kts_exm | rfl | decide +kernel)
    (case e8_InvalidVersion => first | k_is | kit_is | ks_is | kts_exm | rfl | decide +kernel)
    (case e9_InvalidVersion => first | k_is | kit_is | ks_is | kts_exm | rfl | decide +kernel)
    (case eA_InvalidVersion => first | k_is | kit_is | ks_is | kts_exm | rfl | decide +kernel)
    (case eB_InvalidVersion => first | k_is | kit_is | ks_is | kts_exm | rfl | decide +kernel)
    (case eC_InvalidVersion => first | k_is | kit_is | ks_is | kts_exm | rfl | decide +kernel)
    (case eD_InvalidVersion => first | k_is | kit_is | ks_is | kts_exm | rfl | decide +kernel)
    (case eE_InvalidVersion => first | k_is | kit_is | ks_is | kts_exm | rfl | decide +kernel)
    (case eF_InvalidVersion => first | k_is | kit_is | ks_is | kts_exm | rfl | decide +kernel)
    (case eG_InvalidVersion => first | k_is | kit_is | ks_is | kts_exm | rfl | decide +kernel)
    (case eH_InvalidVersion => first | k_is | kit_is | ks_is | kts_exm | rfl | decide +kernel)
    (case eI_InvalidVersion => first | k_is | kit_is | ks_is | kts_exm | rfl | decide +kernel)
    (case eJ_InvalidVersion => first | k_is | kit_is | ks_is | kts_exm | rfl | decide +kernel)
