import PyProof.Rows.All
import Wide.All
import OpenK.AllK
import Wide.FinOn
import PyProof.ZipIter
import HandS.Zip0
import HandS.Base
import HandS.Call
import HandS.List
import HandS.Evl
import HandS.Zip
import KE.KTurns
import PyProof.EqAt
import PyProof.EqKinds
import PyProof.TupleCall
import KE.KRevSl
import HandS.Style
import PyProof.AutoSeq1
import PyProof.ReprRoads
import HandS.Dict
import HandS.Words
import HandS.Ends
import HandS.HeadEnd
import HandS.Defaults
import KE.KExcIs
import HandS.Exc
import HandS.ExcOwn
import HandS.ExcInit
import HandS.ExcField
import HandS.IsInst
import HandS.ExcValue
import HandS.HeadHook1
import HandS.Comp
import HandS.WordsList
import HandS.WordsExc
import HandS.Walk
import HandS.More
import HandS.SetKeys
import HandS.Star
import PyProof.P3Eq
import HandS.TupAny
import PyProof.Rows.ReprOcc
import PyProof.FitsInt
import PyProof.ReprText
import PyProof.StrLaws
import HandS.RaiseMore
import PyProof.ReprStr
import KE.KDictPairs
import HandS.Small
import HandS.Iter
import HandS.DictTup
import HandS.SortInts
import HandS.Conv
import KE.KDictList
import HandS.WordsDict
import HandS.Finally
import KE.GoesEnum
import KE.KStateDown
import HandS.Head0
import HandS.Head1
import HandS.Head2
import HandS.HeadHook2
import PySem.Challenge.RW_nearestkinds_k03_whole_fillings
set_option Elab.async false
set_option linter.all false
set_option maxRecDepth 100000
set_option maxHeartbeats 4000000
/-! list(zip(t, u)) of two tuples. -/
namespace LL
open PySem PySem.Spec PyProof.Rows
open PySem.Sem (wp)
theorem wpAny_alive {M : Model} {A : Around} {E : Value → Shared → Prop} {s : Shared} {a : Addr} {Q : Option Obj → Shared → Prop} (h : Q (s.heap.get? a) s) : wpAny M A (loadIfAlive a) Q E s := fun Γ p _ => by
  show wp M Γ (.loadIfAlive a .pure) _ _ p s
  rw [Sem.wp_loadIfAlive]
  simpa using h
/-- a zip that has handed a tuple out, which lives -/
def ZipOut (h : Heap) (z TI TO T : Addr) : Prop := (∃ f1 : Bool, h.get? z = some { cls := .type "zip", dict := none, data := .fields #[rawInt T, .bool f1, .bool false, .ref TI, .ref TO], slots := #[] }) ∧ ∃ o, h.get? T = some o ∧ o.cls = .type "tuple"
section
variable {prog : Program} {w : World} {A : Around} {E : Value → Shared → Prop} {s : Shared}
theorem free_no {z TI TO T : Addr} {Q : Bool → Shared → Prop} (hz : ZipOut s.heap z TI TO T) (ne : T ≠ z) (h : ∀ h', ZipOut h' z TI TO T → Heap.SameBut z s.heap h' → Q false { s with heap := h' }) : wpAny (model prog w) A (Builtin.SmallTypes.ownedTupleIsFree (.ref z)) Q E s := by
  obtain ⟨⟨f1, hz⟩, o, ho, hc⟩ := hz
  unfold Builtin.SmallTypes.ownedTupleIsFree
  refine wpAny_bind (wpAny_field hz rfl (x := rawInt T) rfl ?_)
  show wpAny _ _ (loadIfAlive ((T : Int)).toNat >>= _) _ _ s
  rw [Int.toNat_natCast]
  refine wpAny_bind (wpAny_alive ?_)
  rw [ho]
  simp only [Option.isNone_some, Bool.false_eq_true, if_false]
  refine wpAny_bind (wpAny_field hz rfl (x := .bool f1) rfl ?_)
  cases f1 with
  | true =>
    rw [if_neg (by decide)]
    exact wpAny_pure (h _ ⟨⟨true, hz⟩, o, ho, hc⟩ (Heap.SameBut.refl ..))
  | false =>
    rw [if_pos (by decide)]
    refine wpAny_bind (wpAny_setField_rec hz (by simp) fun h₁ hz₁ hs₁ => wpAny_pure (h h₁ ⟨⟨true, hz₁⟩, o, hs₁.extBut _ _ ne ho, hc⟩ hs₁))
theorem zipOut_item {z TI TO T i1 i2 l1 l2 : Addr} {k1 k2 : Nat} {xs ys : Array Value} {x y : Value} {Q : Value → Shared → Prop} (D : ZipApart z TI TO i1 i2 l1 l2) (Tz : T ≠ z) (T1 : T ≠ i1) (T2 : T ≠ i2)
    (hz : ZipOut s.heap z TI TO T) (hTI : PySem.IsPair s.heap TI (.ref i1) (.ref i2)) (h1 : s.heap.IsTupleIter i1 l1 k1) (h2 : s.heap.IsTupleIter i2 l2 k2) (hl1 : s.heap.IsTuple l1 xs) (hl2 : s.heap.IsTuple l2 ys) (hx : xs[k1]? = some x) (hy : ys[k2]? = some y)
    (hQ : ∀ h', ZipOut h' z TI TO T → h'.IsTupleIter i1 l1 (k1 + 1) → h'.IsTupleIter i2 l2 (k2 + 1) → PySem.IsPair h' s.heap.objs.size x y → h'.objs.size = s.heap.objs.size + 1 →
      (∀ c o, c ≠ z → c ≠ i1 → c ≠ i2 → s.heap.get? c = some o → h'.get? c = some o) → Q (.ref s.heap.objs.size) { s with heap := h' }) :
    wpAny (model prog w) A (Builtin.«zip.__next__» ⟨[.ref z], []⟩) (fun fin s' => ∃ v, fin = .done (.ret v) ∧ Q v s') E s := by
  obtain ⟨⟨f1, hz0⟩, oT, hoT, hcT⟩ := id hz
  show wpAny _ _ (field (.ref z) 2 >>= _) _ _ _
  refine wpAny_bind (wpAny_field hz0 rfl (x := .bool false) rfl ?_)
  show wpAny _ _ (field (.ref z) 3 >>= _) _ _ _
  refine wpAny_bind (wpAny_field hz0 rfl (x := .ref TI) rfl ?_)
  refine wpAny_bind (wpAny_seqItems hTI rfl ?_)
  show wpAny _ _ (Builtin.SmallTypes.ownedTupleIsFree (.ref z) >>= _) _ _ _
  refine wpAny_bind (free_no hz Tz fun h₁ hz₁ hs₁ => ?_)
  simp only [Bool.false_eq_true, if_false]
  rw [← Array.forIn_toList]
  simp only [List.forIn_cons, List.forIn_nil]
  have h1₁ := h1.extBut hs₁.extBut D.i1z
  have h2₁ := h2.extBut hs₁.extBut D.i2z
  have hl1₁ := hl1.extBut hs₁.extBut D.l1z
  have hl2₁ := hl2.extBut hs₁.extBut D.l2z
  refine wpAny_bind (wpAny_bind (wpAny_bind (wpAny_holding ?_)))
  show wpAny _ _ (Builtin.SmallTypes.nextOf (.ref i1) >>= _) _ _ _
  refine wpAny_bind (RZ.nextOf_tuple_item h1₁ hl1₁ hx fun h₂ h1₂ hs₂ => wpAny_pure ?_)
  refine wpAny_pure ?_
  refine wpAny_bind (wpAny_bind (wpAny_holding ?_))
  show wpAny _ _ (Builtin.SmallTypes.nextOf (.ref i2) >>= _) _ _ _
  refine wpAny_bind (RZ.nextOf_tuple_item (h2₁.extBut hs₂.extBut D.i12.symm) (hl2₁.extBut hs₂.extBut D.l2i1) hy fun h₃ h2₃ hs₃ => wpAny_pure ?_)
  refine wpAny_pure (wpAny_pure ?_)
  refine wpAny_bind (wpAny_newTuple ?_ (by show 2 ≤ sizeLine; decide))
  have hsz : h₃.objs.size = s.heap.objs.size := by rw [hs₃.1, hs₂.1, hs₁.1]
  have up : ∀ c o, c ≠ z → c ≠ i1 → c ≠ i2 → s.heap.get? c = some o → h₃.get? c = some o := fun c o c1 c2 c3 e => hs₃.extBut _ _ c3 (hs₂.extBut _ _ c2 (hs₁.extBut _ _ c1 e))
  have h1₃ : h₃.IsTupleIter i1 l1 (k1 + 1) := h1₂.extBut hs₃.extBut D.i12
  refine wpAny_pure ⟨_, rfl, ?_⟩
  show Q (.ref h₃.objs.size) _
  obtain ⟨⟨f2, z2⟩, oT2, hT2, hc2⟩ := hz₁
  have z3 := hs₃.extBut _ _ D.i2z.symm (hs₂.extBut _ _ D.i1z.symm z2)
  have t3 := hs₃.extBut _ _ T2 (hs₂.extBut _ _ T1 hT2)
  rw [hsz]
  refine hQ _ ⟨⟨f2, Heap.get?_push_of_some _ z3⟩, _, Heap.get?_push_of_some _ t3, hc2⟩ (h1₃.at fun o e => Heap.get?_push_of_some _ e) (h2₃.at fun o e => Heap.get?_push_of_some _ e) ?_ ?_ fun c o c1 c2 c3 e => Heap.get?_push_of_some _ (up c o c1 c2 c3 e)
  · rw [← hsz]; exact Heap.get?_push_size _ rfl
  · rw [Heap.size_push, hsz]
theorem zipOut_end {z TI TO T i1 i2 l1 l2 : Addr} {k1 k2 : Nat} {xs ys : Array Value} {Q : Fin → Shared → Prop} (hh : A.handled = none) (D : ZipApart z TI TO i1 i2 l1 l2) (Tz : T ≠ z)
    (hz : ZipOut s.heap z TI TO T) (hTI : PySem.IsPair s.heap TI (.ref i1) (.ref i2)) (h1 : s.heap.IsTupleIter i1 l1 k1) (h2 : s.heap.IsTupleIter i2 l2 k2) (hl1 : s.heap.IsTuple l1 xs) (hl2 : s.heap.IsTuple l2 ys) (hend : xs[k1]? = none ∨ ys[k2]? = none)
    (hE : ∀ h' e, (∀ c o, c ≠ z → c ≠ i1 → c ≠ i2 → s.heap.get? c = some o → h'.get? c = some o) → (∃ o, h'.get? e = some o ∧ o.cls = .type "StopIteration") → E (.ref e) { s with heap := h' }) :
    wpAny (model prog w) A (Builtin.«zip.__next__» ⟨[.ref z], []⟩) Q E s := by
  obtain ⟨⟨f1, hz0⟩, oT, hoT, hcT⟩ := id hz
  show wpAny _ _ (field (.ref z) 2 >>= _) _ _ _
  refine wpAny_bind (wpAny_field hz0 rfl (x := .bool false) rfl ?_)
  show wpAny _ _ (field (.ref z) 3 >>= _) _ _ _
  refine wpAny_bind (wpAny_field hz0 rfl (x := .ref TI) rfl ?_)
  refine wpAny_bind (wpAny_seqItems hTI rfl ?_)
  show wpAny _ _ (Builtin.SmallTypes.ownedTupleIsFree (.ref z) >>= _) _ _ _
  refine wpAny_bind (free_no hz Tz fun h₁ hz₁ hs₁ => ?_)
  simp only [Bool.false_eq_true, if_false]
  rw [← Array.forIn_toList]
  simp only [List.forIn_cons, List.forIn_nil]
  have h1₁ := h1.extBut hs₁.extBut D.i1z
  have h2₁ := h2.extBut hs₁.extBut D.i2z
  have hl1₁ := hl1.extBut hs₁.extBut D.l1z
  have hl2₁ := hl2.extBut hs₁.extBut D.l2z
  refine wpAny_bind (wpAny_bind (wpAny_bind (wpAny_holding ?_)))
  show wpAny _ _ (Builtin.SmallTypes.nextOf (.ref i1) >>= _) _ _ _
  cases hx : xs[k1]? with
  | none =>
    refine wpAny_bind (RZ.nextOf_tuple_end hh h1₁ hl1₁ hx fun h₂ e hs₂ he => ?_)
    exact hE h₂ e (fun c o c1 c2 c3 q => hs₂ _ _ c2 (hs₁.extBut _ _ c1 q)) he
  | some x =>
    have hy : ys[k2]? = none := by
      rcases hend with h | h
      · rw [hx] at h; cases h
      · exact h
    refine wpAny_bind (RZ.nextOf_tuple_item h1₁ hl1₁ hx fun h₂ h1₂ hs₂ => wpAny_pure ?_)
    refine wpAny_pure ?_
    refine wpAny_bind (wpAny_bind (wpAny_holding ?_))
    show wpAny _ _ (Builtin.SmallTypes.nextOf (.ref i2) >>= _) _ _ _
    refine wpAny_bind (RZ.nextOf_tuple_end hh (h2₁.extBut hs₂.extBut D.i12.symm) (hl2₁.extBut hs₂.extBut D.l2i1) hy fun h₃ e hs₃ he => ?_)
    exact hE h₃ e (fun c o c1 c2 c3 q => hs₃ _ _ c3 (hs₂.extBut _ _ c2 (hs₁.extBut _ _ c1 q))) he
/-- what stands between two draws: the zip, its iterators, what was drawn -/
structure Zi (B z TI TO i1 i2 l1 l2 : Addr) (xs ys acc : Array Value) (h : Heap) : Prop where
  sz : B ≤ h.objs.size
  fr : ∀ v ∈ acc.toList, ∃ T : Addr, v = Value.ref T ∧ B ≤ T
  nd : acc.toList.Nodup
  zp : (acc.size = 0 ∧ PySem.IsZip h z TI TO .none) ∨ ∃ T, T ≠ z ∧ T ≠ i1 ∧ T ≠ i2 ∧ ZipOut h z TI TO T
  ti : PySem.IsPair h TI (.ref i1) (.ref i2)
  to : ∃ a b, PySem.IsPair h TO a b
  h1 : h.IsTupleIter i1 l1 acc.size
  h2 : h.IsTupleIter i2 l2 acc.size
  hl1 : h.IsTuple l1 xs
  hl2 : h.IsTuple l2 ys
  its : ∀ (j : Nat) (v : Value), acc[j]? = some v → ∃ (T : Addr) (x y : Value), v = Value.ref T ∧ xs[j]? = some x ∧ ys[j]? = some y ∧ PySem.IsPair h T x y ∧ T ≠ z ∧ T ≠ TO ∧ T ≠ i1 ∧ T ≠ i2
variable {B z TI TO i1 i2 l1 l2 : Addr} {xs ys acc : Array Value}
theorem Zi.typ (Z : Zi B z TI TO i1 i2 l1 l2 xs ys acc s.heap) : s.TypeIs (.ref z) "zip" := by
  rcases Z.zp with ⟨_, h⟩ | ⟨_, _, _, _, ⟨_, h⟩, _⟩
  · exact ⟨_, h, rfl⟩
  · exact ⟨_, h, rfl⟩
theorem Zi.pushed {h h' : Heap} {T : Addr} {x y : Value} (Z : Zi B z TI TO i1 i2 l1 l2 xs ys acc h) (D : ZipApart z TI TO i1 i2 l1 l2) (hT : ∀ o, h.get? T ≠ some o) (hB : B ≤ T) (hB' : B ≤ h'.objs.size) (hx : xs[acc.size]? = some x) (hy : ys[acc.size]? = some y)
    (zp : ∃ T', T' ≠ z ∧ T' ≠ i1 ∧ T' ≠ i2 ∧ ZipOut h' z TI TO T') (to : ∃ a b, PySem.IsPair h' TO a b) (a1 : h'.IsTupleIter i1 l1 (acc.size + 1)) (a2 : h'.IsTupleIter i2 l2 (acc.size + 1)) (p : PySem.IsPair h' T x y)
    (up : ∀ c o, c ≠ z → c ≠ TO → c ≠ i1 → c ≠ i2 → h.get? c = some o → h'.get? c = some o) : Zi B z TI TO i1 i2 l1 l2 xs ys (acc.push (.ref T)) h' := by
  have nz : T ≠ z := fun e => by
    rcases Z.zp with ⟨_, q⟩ | ⟨_, _, _, _, ⟨_, q⟩, _⟩ <;> exact hT _ (by rw [e]; exact q)
  have nO : T ≠ TO := fun e => by
    obtain ⟨a, b, q⟩ := Z.to
    exact hT _ (by rw [e]; exact q)
  have n1 : T ≠ i1 := fun e => by
    obtain ⟨_, q, _⟩ := Z.h1
    exact hT _ (by rw [e]; exact q)
  have n2 : T ≠ i2 := fun e => by
    obtain ⟨_, q, _⟩ := Z.h2
    exact hT _ (by rw [e]; exact q)
  have nd : (acc.push (.ref T)).toList.Nodup := by
    rw [Array.toList_push, List.nodup_append]
    refine ⟨Z.nd, by simp, fun a ha b hb e => ?_⟩
    rw [List.mem_singleton.mp hb] at e
    obtain ⟨j, hj, ej⟩ := List.getElem_of_mem ha
    have hj2 : acc[j]? = some a := by rw [← ej, ← Array.getElem?_toList, List.getElem?_eq_getElem hj]
    obtain ⟨T', x', y', e1, _, _, e4, _⟩ := Z.its j a hj2
    rw [e1] at e
    cases e
    exact hT _ e4
  have fr : ∀ v ∈ (acc.push (.ref T)).toList, ∃ T : Addr, v = Value.ref T ∧ B ≤ T := fun v hv => by
    rw [Array.toList_push] at hv
    rcases List.mem_append.mp hv with q | q
    · exact Z.fr v q
    · exact ⟨T, List.mem_singleton.mp q, hB⟩
  refine ⟨hB', fr, nd, .inr zp, up _ _ D.TIz D.TITO D.TIi1 D.TIi2 Z.ti, to, by rw [Array.size_push]; exact a1, by rw [Array.size_push]; exact a2, Z.hl1.at fun o e => up _ o D.l1z D.l1TO D.l1i1 D.l1i2 e, Z.hl2.at fun o e => up _ o D.l2z D.l2TO D.l2i1 D.l2i2 e, fun j v hj => ?_⟩
  rw [Array.getElem?_push] at hj
  split at hj
  · rename_i e
    cases hj
    exact ⟨T, x, y, rfl, by rw [e]; exact hx, by rw [e]; exact hy, p, nz, nO, n1, n2⟩
  · obtain ⟨T', x', y', e1, e2, e3, e4, e5, e6, e7, e8⟩ := Z.its j v hj
    exact ⟨T', x', y', e1, e2, e3, up _ _ e5 e6 e7 e8 e4, e5, e6, e7, e8⟩
theorem Zi.next {Q : Option Value → Shared → Prop} (Z : Zi B z TI TO i1 i2 l1 l2 xs ys acc s.heap) (D : ZipApart z TI TO i1 i2 l1 l2) (hx : acc.size < xs.size) (hy : acc.size < ys.size)
    (hQ : ∀ T h', Zi B z TI TO i1 i2 l1 l2 xs ys (acc.push (.ref T)) h' → (∀ c o, c ≠ z → c ≠ TO → c ≠ i1 → c ≠ i2 → s.heap.get? c = some o → h'.get? c = some o) → Q (some (.ref T)) { s with heap := h' }) : wpAny (model prog w) A (pyNext (.ref z)) Q E s := by
  have ex := Array.getElem?_eq_getElem hx
  have ey := Array.getElem?_eq_getElem hy
  have fresh : ∀ o, s.heap.get? s.heap.objs.size ≠ some o := fun o q => absurd (Heap.lt_size q) (Nat.lt_irrefl _)
  have ne : ∀ {c : Addr} {o : Obj}, s.heap.get? c = some o → s.heap.objs.size ≠ c := fun q => Nat.ne_of_gt (Heap.lt_size q)
  have n1 : s.heap.objs.size ≠ i1 := by obtain ⟨_, q, _⟩ := Z.h1; exact ne q
  have n2 : s.heap.objs.size ≠ i2 := by obtain ⟨_, q, _⟩ := Z.h2; exact ne q
  rcases Z.zp with ⟨_, hz⟩ | ⟨T, Tz, T1, T2, hz⟩
  · obtain ⟨a, b, hTO⟩ := Z.to
    refine RZ.pyNext_zipT_item D hz Z.ti hTO Z.h1 Z.h2 Z.hl1 Z.hl2 ex ey fun h' b1 b2 b3 b4 b5 b6 b7 => hQ _ h' (Z.pushed D fresh Z.sz (by rw [b6]; exact Nat.le_succ_of_le Z.sz) ex ey ⟨_, ne hz, n1, n2, ⟨false, b1⟩, _, b5, rfl⟩ ⟨_, _, b2⟩ b3 b4 b5 b7) b7
  · obtain ⟨f1, q⟩ := hz.1
    obtain ⟨a, b, hTO⟩ := Z.to
    have hT : s.TypeIs (.ref z) "zip" := Z.typ
    unfold pyNext
    refine wpAny_bind (wpAny_attempt (wpAny_callSpecial?_slot (name := Str.ofString "__next__") hT F.slot_zip_next (wpAny_call_entry F.slot_zip_next hT F.entry_zip_next
      (zipOut_item D Tz T1 T2 hz Z.ti Z.h1 Z.h2 Z.hl1 Z.hl2 ex ey fun h' b1 b3 b4 b5 b6 b7 => wpAny_pure ?_) (F.args_zip_next_1 _))))
    have up : ∀ c o, c ≠ z → c ≠ TO → c ≠ i1 → c ≠ i2 → s.heap.get? c = some o → h'.get? c = some o := fun c o c1 _ c3 c4 e => b7 c o c1 c3 c4 e
    exact hQ _ h' (Z.pushed D fresh Z.sz (by rw [b6]; exact Nat.le_succ_of_le Z.sz) ex ey ⟨T, Tz, T1, T2, b1⟩ ⟨a, b, b7 _ _ D.TOz D.TOi1 D.TOi2 hTO⟩ b3 b4 b5 up) up
theorem Zi.stop {Q : Option Value → Shared → Prop} (hh : A.handled = none) (Z : Zi B z TI TO i1 i2 l1 l2 xs ys acc s.heap) (D : ZipApart z TI TO i1 i2 l1 l2) (hend : xs.size ≤ acc.size ∨ ys.size ≤ acc.size)
    (hQ : ∀ h', (∀ c o, c ≠ z → c ≠ TO → c ≠ i1 → c ≠ i2 → s.heap.get? c = some o → h'.get? c = some o) → Q none { s with heap := h' }) : wpAny (model prog w) A (pyNext (.ref z)) Q E s := by
  have he : xs[acc.size]? = none ∨ ys[acc.size]? = none := hend.imp Array.getElem?_eq_none Array.getElem?_eq_none
  obtain ⟨a, b, hTO⟩ := Z.to
  rcases Z.zp with ⟨_, hz⟩ | ⟨T, Tz, T1, T2, hz⟩
  · exact RZ.pyNext_zipT_end hh D hz Z.ti hTO Z.h1 Z.h2 Z.hl1 Z.hl2 he fun h' k => hQ h' k
  · have hT : s.TypeIs (.ref z) "zip" := Z.typ
    unfold pyNext
    refine wpAny_bind (wpAny_attempt (wpAny_callSpecial?_slot (name := Str.ofString "__next__") hT F.slot_zip_next (wpAny_call_entry F.slot_zip_next hT F.entry_zip_next
      (zipOut_end (by first | exact hh | rfl) D Tz hz Z.ti Z.h1 Z.h2 Z.hl1 Z.hl2 he fun h' e k q => ?_) (F.args_zip_next_1 _))))
    obtain ⟨o, ho, hc⟩ := q
    refine wpAny_bind (wpAny_isInstance (T := "StopIteration") (b := true) ⟨o, ho, hc⟩ isSubtype_stop ?_)
    exact wpAny_pure (hQ _ fun c o c1 _ c3 c4 e => k c o c1 c3 c4 e)
theorem zip_no_len : typeLookup (.type "zip") "__len__" = pure none := by rw [typeLookup_type, builtinLookup_eq_fast]; kernel_rfl
theorem zip_no_hint : typeLookup (.type "zip") "__length_hint__" = pure none := by rw [typeLookup_type, builtinLookup_eq_fast]; kernel_rfl
abbrev LstAt (h : Heap) (S : Addr) (acc : Array Value) : Prop := ∃ c, h.get? S = some { cls := .type "list", dict := none, data := .seq acc c, slots := #[] }
/-- the list at S has no part in it -/
theorem Zi.keep {h h' : Heap} {S : Addr} {acc0 : Array Value} (Z : Zi B z TI TO i1 i2 l1 l2 xs ys acc h) (hS : LstAt h S acc0) (hB : h.objs.size ≤ h'.objs.size) (k : ∀ b o, b ≠ S → h.get? b = some o → h'.get? b = some o) : Zi B z TI TO i1 i2 l1 l2 xs ys acc h' := by
  obtain ⟨c, hS⟩ := hS
  have ap : ∀ {b : Addr} {o : Obj}, h.get? b = some o → o.cls ≠ .type "list" → h'.get? b = some o := fun {b o} e n => k b o (fun q => by
    subst q
    rw [hS] at e
    cases e
    exact n rfl) e
  have nT : ∀ {a b : Value}, ({ cls := .type "tuple", data := .seq #[a, b] } : Obj).cls ≠ .type "list" := fun q => by simp at q
  refine ⟨Nat.le_trans Z.sz hB, Z.fr, Z.nd, ?_, ap Z.ti nT, ?_, ?_, ?_, ?_, ?_, fun j v hj => ?_⟩
  · rcases Z.zp with ⟨e, q⟩ | ⟨T, n1, n2, n3, ⟨f1, q⟩, o, ho⟩
    · exact .inl ⟨e, ap q (by simp)⟩
    · exact .inr ⟨T, n1, n2, n3, ⟨f1, ap q (by simp)⟩, o, ap ho.1 (by rw [ho.2]; simp), ho.2⟩
  · obtain ⟨a, b, q⟩ := Z.to
    exact ⟨a, b, ap q nT⟩
  · obtain ⟨o, q, hc, r⟩ := Z.h1
    exact ⟨o, ap q (by rw [hc]; simp), hc, r⟩
  · obtain ⟨o, q, hc, r⟩ := Z.h2
    exact ⟨o, ap q (by rw [hc]; simp), hc, r⟩
  · obtain ⟨o, q, hc, r⟩ := Z.hl1
    exact ⟨o, ap q (by rw [hc]; simp), hc, r⟩
  · obtain ⟨o, q, hc, r⟩ := Z.hl2
    exact ⟨o, ap q (by rw [hc]; simp), hc, r⟩
  · obtain ⟨T, x, y, e1, e2, e3, e4, r⟩ := Z.its j v hj
    exact ⟨T, x, y, e1, e2, e3, ap e4 nT, r⟩
theorem Zi.keepL {h h' : Heap} {S : Addr} {acc0 : Array Value} (Z : Zi B z TI TO i1 i2 l1 l2 xs ys acc h) (D : ZipApart z TI TO i1 i2 l1 l2) (hS : LstAt h S acc0) (k : ∀ c o, c ≠ z → c ≠ TO → c ≠ i1 → c ≠ i2 → h.get? c = some o → h'.get? c = some o) : LstAt h' S acc0 := by
  obtain ⟨c, hS⟩ := hS
  refine ⟨c, k _ _ (fun e => ?_) (fun e => ?_) (fun e => ?_) (fun e => ?_) hS⟩
  · subst e
    rcases Z.zp with ⟨_, q⟩ | ⟨_, _, _, _, ⟨_, q⟩, _⟩ <;> exact absurd (hS.symm.trans q) (by simp)
  · subst e
    obtain ⟨a, b, q⟩ := Z.to
    exact absurd (hS.symm.trans q) (by simp)
  · subst e
    obtain ⟨o, q, hc, _⟩ := Z.h1
    rw [hS] at q
    cases q
    simp at hc
  · subst e
    obtain ⟨o, q, hc, _⟩ := Z.h2
    rw [hS] at q
    cases q
    simp at hc
/-- the loop that draws all -/
theorem zip_loop {R : Result → Shared → Prop} {S : Addr} {res : Value} (hh : A.handled = none) (D : ZipApart z TI TO i1 i2 l1 l2) (hn : min xs.size ys.size ≤ sizeLine) : ∀ (k : Nat) (s : Shared) (acc : Array Value), min xs.size ys.size - acc.size = k → acc.size ≤ min xs.size ys.size → Zi B z TI TO i1 i2 l1 l2 xs ys acc s.heap → LstAt s.heap S acc →
    (∀ h' acc', acc'.size = min xs.size ys.size → ((∀ v ∈ acc'.toList, ∃ T : Addr, v = Value.ref T ∧ B ≤ T) ∧ acc'.toList.Nodup) → LstAt h' S acc' → (∀ (j : Nat) (v : Value), acc'[j]? = some v → ∃ (T : Addr) (x y : Value), v = Value.ref T ∧ xs[j]? = some x ∧ ys[j]? = some y ∧ PySem.IsPair h' T x y) →
      (∀ c o, c ≠ S → c ≠ z → c ≠ TO → c ≠ i1 → c ≠ i2 → s.heap.get? c = some o → h'.get? c = some o) → R (.ok (.ret res)) { s with heap := h' }) →
    codeAny (model prog w) A (.builtin "list.extend.loop" ⟨[.ref S, .ref z, res], []⟩) R s := by
  intro k
  induction k with
  | zero =>
    intro s acc hk hle Z hS hR
    refine codeAny_builtin F.entry_extend_loop ?_
    rw [Around.under_plainId F.plain_extend_loop _]
    show wpAny _ A.in1 (pyNext (.ref z) >>= _) _ _ s
    refine wpAny_bind (Z.stop (by first | exact hh | rfl) D (by omega) fun h' up => ?_)
    refine wpAny_pure (hR h' acc (by omega) ⟨Z.fr, Z.nd⟩ (Z.keepL D hS up) (fun j v hj => ?_) fun c o _ c1 c2 c3 c4 e => up c o c1 c2 c3 c4 e)
    obtain ⟨T, x, y, e1, e2, e3, e4, n1, n2, n3, n4⟩ := Z.its j v hj
    exact ⟨T, x, y, e1, e2, e3, up _ _ n1 n2 n3 n4 e4⟩
  | succ k ih =>
    intro s acc hk hle Z hS hR
    refine codeAny_builtin F.entry_extend_loop ?_
    rw [Around.under_plainId F.plain_extend_loop _]
    show wpAny _ A.in1 (pyNext (.ref z) >>= _) _ _ s
    refine wpAny_bind (Z.next D (by omega) (by omega) fun T h' Z' up => ?_)
    have S1 := Z.keepL D hS up
    obtain ⟨c, hS1⟩ := id S1
    show wpAny _ A.in1 (updateSeq S (·.push (.ref T)) >>= _) _ _ _
    refine wpAny_bind ?_
    have oth : ∀ b o, b ≠ S → h'.get? b = some o → (h'.update S (Obj.mapSeq (·.push (Value.ref T)))).get? b = some o := fun b o hb e => (Heap.get?_update_other _ _ (Ne.symm hb)).trans e
    refine wpAny_updateSeq (s := { s with heap := h' }) hS1 rfl (wpAny_pure ⟨plainId_quiet F.plain_extend_loop _, ih _ (acc.push (.ref T)) (by rw [Array.size_push]; omega) (by rw [Array.size_push]; omega) (Z'.keep S1 (Nat.le_of_eq (Heap.SameBut.update ..).1.symm) oth) ⟨_, Heap.get?_update_self _ hS1 rfl⟩ fun h'' acc' e1 e2 e3 e4 e5 => ?_⟩) (by omega) (by show (acc.push (Value.ref T)).size ≤ sizeLine + 1; rw [Array.size_push]; omega)
    exact hR h'' acc' e1 e2 e3 e4 fun c o n0 n1 n2 n3 n4 e => e5 c o n0 n1 n2 n3 n4 (oth c o n0 (up c o n1 n2 n3 n4 e))
/-- what is told of a list that was drawn from a zip -/
def Drawn (B z TO i1 i2 S : Addr) (xs ys : Array Value) (h h' : Heap) (acc : Array Value) : Prop :=
  acc.size = min xs.size ys.size ∧ ((∀ v ∈ acc.toList, ∃ T : Addr, v = Value.ref T ∧ B ≤ T) ∧ acc.toList.Nodup) ∧ LstAt h' S acc ∧ (∀ (j : Nat) (v : Value), acc[j]? = some v → ∃ (T : Addr) (x y : Value), v = Value.ref T ∧ xs[j]? = some x ∧ ys[j]? = some y ∧ PySem.IsPair h' T x y) ∧
    (∀ c o, c ≠ S → c ≠ z → c ≠ TO → c ≠ i1 → c ≠ i2 → h.get? c = some o → h'.get? c = some o)
theorem zip_extend {R : Result → Shared → Prop} {S : Addr} {res : Value} {c₀ : Nat} (hh : A.handled = none) (D : ZipApart z TI TO i1 i2 l1 l2) (hn : min xs.size ys.size ≤ sizeLine) (Z : Zi B z TI TO i1 i2 l1 l2 xs ys #[] s.heap) (zs : PySem.IsZip s.heap z TI TO .none)
    (hS : s.heap.get? S = some { cls := .type "list", data := .seq #[] c₀ }) (hR : ∀ h' acc, Drawn B z TO i1 i2 S xs ys s.heap h' acc → R (.ok (.ret res)) { s with heap := h' }) :
    wpAny (model prog w) A.in1 (Builtin.List.listExtendWith (.ref S) (.ref z) res) (fun fin s' => match fin with | .done f => R (.ok f) s' | .again c' => c'.quiet = true ∧ codeAny (model prog w) A c' R s') (fun e s' => R (.error e) s') s := by
  have hT := Z.typ
  have Sz : S ≠ z := fun e => by
    subst e
    obtain ⟨o, q, hc⟩ := hT
    rw [hS] at q
    cases q
    simp at hc
  have b1 : Builtin.List.listSameRef (.ref S) (.ref z) = false := by simp [Builtin.List.listSameRef, Sz]
  have b2 : (Value.type "zip" == Value.type "list") = false := by decide
  have b3 : (Value.type "zip" == Value.type "tuple") = false := by decide
  unfold Builtin.List.listExtendWith
  refine wpAny_bind (wpAny_typeOf hT ?_)
  simp only [b1, b2, b3, Bool.or_false, Bool.false_eq_true, if_false]
  refine wpAny_bind ?_
  refine wpAny_pyIter_zip zs ?_
  refine wpAny_bind (wpAny_holding ?_)
  unfold Builtin.List.listLengthHint
  refine wpAny_bind (wpAny_specialOf hT zip_no_len ?_)
  show wpAny _ A.in1 (specialOf (Value.ref z) (Str.ofString "__length_hint__") >>= _) _ _ _
  refine wpAny_bind (wpAny_specialOf hT zip_no_hint (wpAny_pure ?_))
  show wpAny _ A.in1 (rule "list.extend.makes-room" >>= fun _ => Builtin.List.listTouch (.ref S) >>= fun _ => again (.builtin "list.extend.loop" ⟨[.ref S, .ref z, res], []⟩)) _ _ _
  refine wpAny_bind (wpAny_rule (wpAny_bind ?_))
  show wpAny _ A.in1 (updateSeq S (·.push .none) >>= fun _ => updateSeq S (·.pop)) _ _ _
  refine wpAny_bind (wpAny_updateSeq hS rfl ?_)
  have h2 := Heap.get?_update_self (Obj.mapSeq (·.push Value.none)) hS rfl
  refine wpAny_updateSeq (hz := by seq_fits) h2 rfl ?_
  have h3 := Heap.get?_update_self (Obj.mapSeq (·.pop)) h2 rfl
  have oth : ∀ b o, b ≠ S → s.heap.get? b = some o → ((s.heap.update S (Obj.mapSeq (·.push Value.none))).update S (Obj.mapSeq (·.pop))).get? b = some o :=
    fun b o hb e => (Heap.get?_update_other _ _ (Ne.symm hb)).trans ((Heap.get?_update_other _ _ (Ne.symm hb)).trans e)
  refine wpAny_pure ⟨plainId_quiet F.plain_extend_loop _, zip_loop hh D hn _ _ #[] rfl (Nat.zero_le _) (Z.keep ⟨_, hS⟩ (by first | exact Nat.le_of_eq (((Heap.SameBut.update ..).1.trans (Heap.SameBut.update ..).1).symm) | simp) oth) ⟨_, h3⟩ fun h' acc' e1 e0 e2 e3 e4 => hR h' acc' ⟨e1, e0, e2, e3, fun c o n0 n1 n2 n3 n4 e => e4 c o n0 n1 n2 n3 n4 (oth c o n0 e)⟩⟩
theorem zip_init {R : Result → Shared → Prop} {S : Addr} (hh : A.handled = none) (D : ZipApart z TI TO i1 i2 l1 l2) (hn : min xs.size ys.size ≤ sizeLine) (Z : Zi B z TI TO i1 i2 l1 l2 xs ys #[] s.heap) (zs : PySem.IsZip s.heap z TI TO .none)
    (hS : s.heap.get? S = some { cls := .type "list", data := .seq #[] }) (hR : ∀ h' acc, Drawn B z TO i1 i2 S xs ys s.heap h' acc → R (.ok (.ret .none)) { s with heap := h' }) :
    wpAny (model prog w) A.in1 (Builtin.«list.__init__» ⟨[.ref S, .ref z], []⟩) (fun fin s' => match fin with | .done f => R (.ok f) s' | .again c' => c'.quiet = true ∧ codeAny (model prog w) A c' R s') (fun e s' => R (.error e) s') s := by
  show wpAny _ A.in1 (do let old ← Builtin.List.listItems (.ref S); Builtin.List.listUpdate (.ref S) (fun _ => #[]); letGo old.toList.reverse; Builtin.List.listExtendWith (.ref S) (.ref z) .none) _ _ s
  refine wpAny_bind ?_
  unfold Builtin.List.listItems
  refine wpAny_bind (wpAny_seqItems hS rfl (wpAny_pure ?_))
  show wpAny _ A.in1 (updateSeq S (fun _ => #[]) >>= fun _ => letGo (#[] : Array Value).toList.reverse >>= fun _ => Builtin.List.listExtendWith (.ref S) (.ref z) .none) _ _ s
  refine wpAny_bind (wpAny_updateSeq hS rfl ?_)
  have h2 := Heap.get?_update_self (Obj.mapSeq (fun _ => (#[] : Array Value))) hS rfl
  have oth : ∀ b o, b ≠ S → s.heap.get? b = some o → (s.heap.update S (Obj.mapSeq (fun _ => (#[] : Array Value)))).get? b = some o := fun b o hb e => (Heap.get?_update_other _ _ (Ne.symm hb)).trans e
  have Sz : z ≠ S := fun e => by
    subst e
    exact absurd (hS.symm.trans zs) (by simp)
  refine wpAny_bind (wpAny_letGo ?_)
  refine zip_extend hh D hn (Z.keep ⟨_, hS⟩ (Nat.le_of_eq (Heap.SameBut.update ..).1.symm) oth) (oth _ _ Sz zs) h2 fun h' acc d => hR h' acc ⟨d.1, d.2.1, d.2.2.1, d.2.2.2.1, fun c o n0 n1 n2 n3 n4 e => d.2.2.2.2 c o n0 n1 n2 n3 n4 (oth c o n0 e)⟩
theorem call_list_zip {Q : Value → Shared → Prop} (hh : A.handled = none) (D : ZipApart z TI TO i1 i2 l1 l2) (hn : min xs.size ys.size ≤ sizeLine) (Z : Zi B z TI TO i1 i2 l1 l2 xs ys #[] s.heap) (zs : PySem.IsZip s.heap z TI TO .none)
    (hQ : ∀ h' acc, Drawn B z TO i1 i2 s.heap.objs.size xs ys s.heap h' acc → Q (.ref s.heap.objs.size) { s with heap := h' }) : wpAny (model prog w) A (call (.type "list") [.ref z]) Q E s := by
  refine callType_codes (Q₁ := fun obj s₁ => obj = .ref s.heap.objs.size ∧ s₁ = { s with heap := s.heap.push { cls := .type "list", data := .seq #[] } }) F.called_list (F.typeCall_list_1 _) F.entry_list_init (code_list_new _ ⟨rfl, rfl⟩) fun obj s₁ h₁ => ?_
  obtain ⟨rfl, rfl⟩ := h₁
  have hS : (s.heap.push { cls := .type "list", data := .seq #[] }).get? s.heap.objs.size = some { cls := .type "list", data := .seq #[] } := Heap.get?_push_size _ rfl
  have up : ∀ b o, s.heap.get? b = some o → (s.heap.push { cls := .type "list", data := .seq #[] }).get? b = some o := fun b o e => Heap.get?_push_of_some _ e
  have Z2 : Zi B z TI TO i1 i2 l1 l2 xs ys #[] (s.heap.push { cls := .type "list", data := .seq #[] }) := by
    refine ⟨by rw [Heap.size_push]; exact Nat.le_succ_of_le Z.sz, Z.fr, Z.nd, .inl ⟨rfl, up _ _ zs⟩, up _ _ Z.ti, ?_, Z.h1.at fun o e => up _ o e, Z.h2.at fun o e => up _ o e, Z.hl1.at fun o e => up _ o e, Z.hl2.at fun o e => up _ o e, fun j v hj => by simp at hj⟩
    obtain ⟨a, b, q⟩ := Z.to
    exact ⟨a, b, up _ _ q⟩
  refine ⟨⟨_, hS, rfl⟩, F.args_list_init_2 _ _, zip_init (s := { s with heap := s.heap.push { cls := .type "list", data := .seq #[] } }) (by first | exact hh | rfl) D hn Z2 (up _ _ zs) hS fun h' acc d => ?_⟩
  exact ⟨rfl, hQ h' acc ⟨d.1, d.2.1, d.2.2.1, d.2.2.2.1, fun c o n0 n1 n2 n3 n4 e => d.2.2.2.2 c o n0 n1 n2 n3 n4 (up _ _ e)⟩⟩
end
end LL
set_option maxHeartbeats 4000000
/-! list(zip(t, u)) as a rule. -/
namespace LL
open PySem PySem.Spec PyProof.Rows L2
/-- H with new objects -/
def over (H : Hp) (l : List (Addr × HO)) : Hp := fun b => match l.lookup b with
  | some o => some o
  | none => H b
theorem over_old {H : Hp} {l : List (Addr × HO)} {b : Addr} (h : l.lookup b = none) : over H l b = H b := by
  unfold over
  rw [h]
theorem over_new {H : Hp} {l : List (Addr × HO)} {b : Addr} {o : HO} (h : l.lookup b = some o) : over H l b = some o := by
  unfold over
  rw [h]
section
variable {X : Cx} {pins : List (Addr × Obj)} {σ : L2.St} {H : Hp} {s : Shared}
theorem inv_news {h' : Heap} {t' : Nat} {l : List (Addr × HO)} (I : Inv X pins σ H s) (k : ∀ b u, s.heap.get? b = some u → h'.get? b = some u) (hl : ∀ b o, l.lookup b = some o → s.heap.objs.size ≤ b ∧ ObjOk X.prog X.w (over H l) h' b o) :
    Inv X pins σ (over H l) { s with heap := h', toks := t' } := by
  have old : ∀ b, b < s.heap.objs.size → over H l b = H b := fun b hb => by
    refine over_old ?_
    cases e : l.lookup b with
    | none => rfl
    | some o => exact absurd (Nat.lt_of_lt_of_le hb (hl b o e).1) (Nat.lt_irrefl _)
  have oldT : ∀ b o, H b = some o → over H l b = some o := fun b o e => by rw [old b (I.hok.lt e)]; exact e
  refine I.un ⟨fun b o q _ _ _ => k b o q, fun b o q _ _ _ => ⟨o.slots, k b o q⟩, fun b o q n _ => by rw [old b (Heap.lt_size q)]; exact n, fun b o q _ => ⟨o, k b o q⟩, fun b xs q => oldT b _ q, fun b o u q => oldT b _ q, fun b ps q => ⟨#[], by rw [oldT b _ q]; simp⟩⟩ fun b o e => ?_
  cases q : l.lookup b with
  | some u =>
    rw [over_new q] at e
    cases e
    exact (hl b o q).2
  | none =>
    rw [over_old q] at e
    exact (I.hok b o e).stay (fun c v _ r => k c v r) (fun c r => oldT c _ r) fun c xs r => oldT c _ r
end
theorem lookup_zip {os : List HO} : ∀ {Ts : List Addr}, Ts.Nodup → ∀ {os : List HO} {i : Nat} {T : Addr} {o : HO}, Ts[i]? = some T → os[i]? = some o → (Ts.zip os).lookup T = some o
  | [], _, _, _, _, _, h, _ => by simp at h
  | T0 :: Ts, nd, [], i, T, o, _, h => by simp at h
  | T0 :: Ts, nd, o0 :: os, 0, T, o, h1, h2 => by
    simp at h1 h2
    subst h1 h2
    simp
  | T0 :: Ts, nd, o0 :: os, i + 1, T, o, h1, h2 => by
    have nd2 := List.nodup_cons.mp nd
    have h1 : Ts[i]? = some T := by simpa using h1
    have h2 : os[i]? = some o := by simpa using h2
    have ne : T ≠ T0 := fun e => nd2.1 (by rw [← e]; exact List.mem_of_getElem? h1)
    show (match T == T0 with
      | true => some o0
      | false => (Ts.zip os).lookup T) = some o
    rw [beq_eq_false_iff_ne.mpr ne]
    exact lookup_zip (os := os) nd2.2 h1 h2
theorem lookup_back {b : Addr} {o : HO} : ∀ {Ts : List Addr} {os : List HO}, (Ts.zip os).lookup b = some o → ∃ i : Nat, Ts[i]? = some b ∧ os[i]? = some o
  | [], _, h => by simp at h
  | T0 :: Ts, [], h => by simp at h
  | T0 :: Ts, o0 :: os, h => by
    have h : (match b == T0 with
      | true => some o0
      | false => (Ts.zip os).lookup b) = some o := h
    by_cases e : b = T0
    · subst e
      simp at h
      subst h
      exact ⟨0, by simp, by simp⟩
    · rw [beq_eq_false_iff_ne.mpr e] at h
      obtain ⟨i, h1, h2⟩ := lookup_back (Ts := Ts) (os := os) h
      exact ⟨i + 1, by simpa using h1, by simpa using h2⟩
theorem refs_of {B : Addr} : ∀ {vs : List Value}, (∀ v ∈ vs, ∃ T : Addr, v = Value.ref T ∧ B ≤ T) → ∃ Ts : List Addr, vs = Ts.map Value.ref ∧ ∀ T ∈ Ts, B ≤ T
  | [], _ => ⟨[], rfl, nofun⟩
  | v :: vs, h => by
    obtain ⟨T, rfl, hT⟩ := h v List.mem_cons_self
    obtain ⟨Ts, rfl, hTs⟩ := refs_of (vs := vs) fun u hu => h u (List.mem_cons_of_mem _ hu)
    exact ⟨T :: Ts, rfl, fun U hU => (List.mem_cons.mp hU).elim (fun e => by rw [e]; exact hT) (hTs U)⟩
theorem vals_refs : ∀ {Ts : List Addr}, Vals (Ts.map V.ref) (Ts.map Value.ref)
  | [] => .nil
  | _ :: _ => .cons rfl vals_refs
def tZipL (K : PySem.W.Frag) (ta : TA) : TE := fun σ H Q => ta σ H fun vs H1 => ∃ a b xs ys, vs = [.ref a, .ref b] ∧ SqT K H1 a xs ∧ SqT K H1 b ys ∧ ∀ (p : Addr) (Ts : List Addr) (H2 : Hp), H1 p = none → Evl.Ex H1 H2 → H2 p = some (.lst (Ts.map V.ref)) →
  Ts.length = min xs.length ys.length → (∀ (i : Nat) (T : Addr), Ts[i]? = some T → ∃ x y, xs[i]? = some x ∧ ys[i]? = some y ∧ H2 T = some (.tup [x, y])) → Q (.ref p) H2
theorem pe_listZip {X : Cx} {e e2 : Expr} {ta : TA} {p p2 pos pos2 : Pos} (hc : X.calm = true) (hgl : Gl X "list") (hml : X.mg "list" = none) (hg : Gl X "zip") (hm : X.mg "zip" = none) (ha : PA X [e, e2] ta)
    (hs : starEach [e, e2] X.env = (false, eval e X.env) :: starEach [e2] X.env := by rfl) (hpl : (backTo pos2 (starEach [e2] X.env)).any (·.1) = false := by rfl)
    (na : starEach [Expr.Call (.Name "zip" p2) [e, e2] [] pos2] X.env = (false, eval (.Call (.Name "zip" p2) [e, e2] [] pos2) X.env) :: starEach [] X.env := by rfl) :
    PE X (.Call (.Name "list" p) [.Call (.Name "zip" p2) [e, e2] [] pos2] [] pos) (tZipL X.K ta) := by
  refine ⟨fun pins s σ H Q I h => ?_⟩
  refine Call_ (ld_blt I hgl hml boot_list (PyProof.Rows.callWith_type1 (args_cons ?_ na) na))
  refine Call_ (ld_blt I hg hm PyProof.Rows.boot_zip (PyProof.Rows.callWith_type1 (thn (ha.run pos2 pins s σ H _ I h) fun us s1 ⟨vs, H1, I1, r1, q1⟩ => ?_) hs hpl))
  obtain ⟨a, b, xs, ys, ex, hqx, hqy, q⟩ := q1
  subst ex
  obtain ⟨u1, u2, rfl, ra, rb⟩ := vals2 r1
  cases (show u1 = Value.ref a from ra)
  cases (show u2 = Value.ref b from rb)
  obtain ⟨its, rv, p1, z1⟩ := I1.tuple hqx
  obtain ⟨its2, rv2, p2, z2⟩ := I1.tuple hqy
  obtain ⟨o1, ho1, _⟩ := id p1
  obtain ⟨o2, ho2, _⟩ := id p2
  have D := PySem.W.ktu_apart s1.heap.objs.size a b (Heap.lt_size ho1) (Heap.lt_size ho2)
  refine RZ.call_zipT (show s1.heap.IsTuple a its.toArray from p1) (show s1.heap.IsTuple b its2.toArray from p2) fun h' hz hTI hTO h1 h2 hsz hk => ?_
  have I2 : Inv X pins σ H1 { s1 with heap := h' } := I1.kept (t' := s1.toks) hk
  refine args_nil ?_
  have Z : Zi h'.objs.size (s1.heap.objs.size + 4) (s1.heap.objs.size + 2) (s1.heap.objs.size + 3) s1.heap.objs.size (s1.heap.objs.size + 1) a b its.toArray its2.toArray #[] h' :=
    ⟨Nat.le_refl _, fun v hv => by simp at hv, by simp, .inl ⟨rfl, hz⟩, hTI, ⟨_, _, hTO⟩, h1, h2, (show s1.heap.IsTuple a its.toArray from p1).at fun o e => hk _ o e, (show s1.heap.IsTuple b its2.toArray from p2).at fun o e => hk _ o e, fun j v hj => by simp at hj⟩
  have l1 := rv.length
  have l2 := rv2.length
  refine call_list_zip (s := { s1 with heap := h' }) (I2.ok.hd hc) D (by simp only [List.size_toArray]; omega) Z hz fun h'' acc d => ?_
  obtain ⟨d1, ⟨d2, d3⟩, ⟨c, d4⟩, d5, d6⟩ := d
  obtain ⟨Ts, eT, bT⟩ := refs_of d2
  have ndT : Ts.Nodup := by
    rw [eT] at d3
    exact (List.pairwise_map.mp d3).imp fun h e => h (congrArg _ e)
  have sz1 : s1.heap.objs.size ≤ h'.objs.size := by rw [hsz]; exact Nat.le_add_right _ _
  have lT : Ts.length = min xs.length ys.length := by
    have e : acc.toList.length = Ts.length := by rw [eT, List.length_map]
    rw [Array.length_toList] at e
    rw [← e, d1, List.size_toArray, List.size_toArray, l1, l2]
  have at_ : ∀ (i : Nat) (T : Addr), Ts[i]? = some T → ∃ x y xu yu, xs[i]? = some x ∧ ys[i]? = some y ∧ RelV x xu ∧ RelV y yu ∧ PySem.IsPair h'' T xu yu := fun i T hi => by
    have hj : acc[i]? = some (Value.ref T) := by rw [← Array.getElem?_toList, eT, List.getElem?_map, hi]; rfl
    obtain ⟨T', xu, yu, e1, e2, e3, e4⟩ := d5 i _ hj
    cases e1
    have il : i < Ts.length := (List.getElem?_eq_some_iff.mp hi).1
    obtain ⟨xu2, f1, r1⟩ := rv.get (show xs[i]? = some xs[i] from List.getElem?_eq_getElem (by omega))
    obtain ⟨yu2, f2, r2⟩ := rv2.get (show ys[i]? = some ys[i] from List.getElem?_eq_getElem (by omega))
    have g1 : its[i]? = some xu := by simpa using e2
    have g2 : its2[i]? = some yu := by simpa using e3
    rw [g1] at f1
    rw [g2] at f2
    cases f1
    cases f2
    exact ⟨_, _, xu, yu, List.getElem?_eq_getElem (by omega), List.getElem?_eq_getElem (by omega), r1, r2, e4⟩
  have Tp : ∀ T ∈ Ts, T ≠ h'.objs.size := fun T hT e => by
    obtain ⟨i, hi, ei⟩ := List.getElem_of_mem hT
    obtain ⟨x, y, xu, yu, _, _, _, _, pr⟩ := at_ i T (by rw [List.getElem?_eq_getElem hi, ei])
    rw [e] at pr
    exact absurd (d4.symm.trans pr) (by simp)
  obtain ⟨os, hos⟩ : ∃ os : List HO, os = (xs.zip ys).map fun q => HO.tup [q.1, q.2] := ⟨_, rfl⟩
  have osAt : ∀ (i : Nat) (x y : V), xs[i]? = some x → ys[i]? = some y → os[i]? = some (.tup [x, y]) := fun i x y hx hy => by
    rw [hos, List.getElem?_map, show (xs.zip ys)[i]? = some (x, y) from List.getElem?_zip_eq_some.mpr ⟨hx, hy⟩]
    rfl
  obtain ⟨l, hl⟩ : ∃ l : List (Addr × HO), l = (h'.objs.size, HO.lst (Ts.map V.ref)) :: Ts.zip os := ⟨_, rfl⟩
  have lp : l.lookup h'.objs.size = some (.lst (Ts.map V.ref)) := by rw [hl]; simp
  have lT2 : ∀ (i : Nat) (T : Addr) (x y : V), Ts[i]? = some T → xs[i]? = some x → ys[i]? = some y → l.lookup T = some (.tup [x, y]) := fun i T x y hi hx hy => by
    have ne := Tp T (List.mem_of_getElem? hi)
    rw [hl]
    show (match T == h'.objs.size with
      | true => some (HO.lst (Ts.map V.ref))
      | false => (Ts.zip os).lookup T) = _
    rw [beq_eq_false_iff_ne.mpr ne]
    exact lookup_zip (os := []) ndT hi (osAt i x y hx hy)
  have back : ∀ (b : Addr) (o : HO), l.lookup b = some o → (b = h'.objs.size ∧ o = .lst (Ts.map V.ref)) ∨ ∃ (i : Nat) (x y : V), Ts[i]? = some b ∧ xs[i]? = some x ∧ ys[i]? = some y ∧ o = .tup [x, y] := fun b o h => by
    rw [hl] at h
    have h : (match b == h'.objs.size with
      | true => some (HO.lst (Ts.map V.ref))
      | false => (Ts.zip os).lookup b) = some o := h
    by_cases e : b = h'.objs.size
    · subst e
      simp at h
      exact .inl ⟨rfl, h.symm⟩
    · rw [beq_eq_false_iff_ne.mpr e] at h
      obtain ⟨i, h1, h2⟩ := lookup_back h
      obtain ⟨x, y, _, _, hx, hy, _⟩ := at_ i b h1
      rw [osAt i x y hx hy] at h2
      cases h2
      exact .inr ⟨i, x, y, h1, hx, hy, rfl⟩
  have keep : ∀ b u, s1.heap.get? b = some u → h''.get? b = some u := fun b u e => by
    have lt := Heap.lt_size e
    have nn : ∀ n, b ≠ s1.heap.objs.size + n := fun n q => by rw [q] at lt; exact absurd lt (Nat.not_lt_of_le (Nat.le_add_right _ n))
    exact d6 b u (fun q => by rw [q] at lt; exact absurd lt (Nat.not_lt_of_le sz1)) (nn 4) (nn 3) (nn 0) (nn 1) (hk b u e)
  have I3 : Inv X pins σ (over H1 l) { s1 with heap := h'', toks := s1.toks } := by
    refine inv_news I1 keep fun b o h => ?_
    rcases back b o h with ⟨rfl, rfl⟩ | ⟨i, x, y, h1, hx, hy, rfl⟩
    · refine ⟨sz1, ?_, acc.toList, c, ?_, ?_⟩
      · rw [List.length_map, lT]; omega
      · rw [eT]; exact vals_refs
      · rw [Array.toArray_toList]; exact d4
    · obtain ⟨x', y', xu, yu, hx', hy', rx, ry, pr⟩ := at_ i b h1
      rw [hx] at hx'
      rw [hy] at hy'
      cases hx'
      cases hy'
      exact ⟨Nat.le_trans sz1 (bT b (List.mem_of_getElem? h1)), by show 2 ≤ sizeLine; decide, [xu, yu], .cons rx (.cons ry .nil), _, pr, rfl, _, rfl⟩
  refine ⟨.ref h'.objs.size, over H1 l, I3, rfl, q _ Ts _ (I1.hok.fresh sz1) (fun b o e => ?_) (over_new lp) lT fun i T hi => ?_⟩
  · rw [over_old]
    · exact e
    · cases r : l.lookup b with
      | none => rfl
      | some u =>
        have lt := I1.hok.lt e
        rcases back b u r with ⟨rfl, _⟩ | ⟨i, x, y, h1, _⟩
        · exact absurd (Nat.lt_of_lt_of_le lt sz1) (Nat.lt_irrefl _)
        · exact absurd (Nat.lt_of_lt_of_le lt (Nat.le_trans sz1 (bT b (List.mem_of_getElem? h1)))) (Nat.lt_irrefl _)
  · obtain ⟨x, y, _, _, hx, hy, _⟩ := at_ i T hi
    exact ⟨x, y, hx, hy, over_new (lT2 i T x y hi hx hy)⟩
end LL
set_option maxHeartbeats 4000000
/-! t[::-1] of a tuple; lists that a tuple is put behind; the end of a list cut off; list(zip(..)) of tuples. -/
namespace LL
open PySem PySem.Spec PyProof.Rows L2 PySem.Calls
section
variable {prog : Program} {w : World} {A : Around} {E : Value → Shared → Prop} {s : Shared}
theorem sliceApplied_rev {sl : Addr} {vl vu vs : Value} {n : Nat} {Q : Int × Int × Nat → Shared → Prop} (hs : s.heap.IsSliceOf sl vl vu vs) (pl : IsPart vl none) (pu : IsPart vu none) (ps : IsPart vs (some (-1)))
    (h : Q ((n : Int) - 1, -1, n) s) : wpAny (model prog w) A (Builtin.Slice.sliceApplied (.ref sl) (pure (n : Int))) Q E s := by
  obtain ⟨os, hos, hcs, hds⟩ := id hs
  unfold Builtin.Slice.sliceApplied Builtin.Slice.sliceFields
  refine wpAny_bind (wpAny_bind (wpAny_field hos hds (x := vl) rfl (wpAny_bind (wpAny_field hos hds (x := vu) rfl (wpAny_bind (wpAny_field hos hds (x := vs) rfl (wpAny_pure ?_)))))))
  refine wpAny_bind (HT.slicePart_ ps ?_)
  show wpAny _ _ (if ((-1 : Int) == 0) = true then _ else _) _ _ s
  rw [if_neg (by decide)]
  refine wpAny_bind (HT.slicePart_ pl (wpAny_bind (HT.slicePart_ pu (wpAny_bind (wpAny_pure ?_)))))
  show wpAny _ _ (match Builtin.Slice.sliceAdjust none none (-1) (n : Int) with | (lo, hi) => pure (lo, (-1 : Int), Builtin.Slice.slicePlaces lo hi (-1))) _ _ s
  have e : Builtin.Slice.sliceAdjust none none (-1) (n : Int) = ((n : Int) - 1, -1) := rfl
  rw [e]
  have e2 : Builtin.Slice.slicePlaces ((n : Int) - 1) (-1) (-1) = n := by
    unfold Builtin.Slice.slicePlaces
    rw [if_neg (by decide)]
    by_cases hn : n = 0
    · subst hn
      rw [if_neg (by decide)]
      rfl
    · rw [if_pos (by omega), show (- -1 : Int) = 1 by decide, Int.ediv_one]
      omega
  show wpAny _ _ (pure ((n : Int) - 1, (-1 : Int), Builtin.Slice.slicePlaces ((n : Int) - 1) (-1) (-1))) _ _ s
  rw [e2]
  exact wpAny_pure h
theorem pick_rev (xs : Array Value) : ((List.range xs.size).filterMap fun (m : Nat) => xs[((xs.size : Int) - 1 + (m : Int) * (-1)).toNat]?).toArray = xs.toList.reverse.toArray := by
  congr 1
  have e : ((List.range xs.size).filterMap fun (m : Nat) => xs[((xs.size : Int) - 1 + (m : Int) * (-1)).toNat]?) = ((List.range xs.size).map fun k => xs.size - 1 - k).filterMap (xs[·]?) := by
    rw [List.filterMap_map]
    have go : ∀ l : List Nat, (∀ m ∈ l, m < xs.size) → l.filterMap (fun (m : Nat) => xs[((xs.size : Int) - 1 + (m : Int) * (-1)).toNat]?) = l.filterMap ((fun x => xs[x]?) ∘ fun k => xs.size - 1 - k) := by
      intro l
      induction l with
      | nil => intro _; rfl
      | cons m l ih =>
        intro hm
        have h1 := hm m List.mem_cons_self
        have e : ((xs.size : Int) - 1 + (m : Int) * (-1)).toNat = xs.size - 1 - m := by omega
        have e2 : xs[((xs.size : Int) - 1 + (m : Int) * (-1)).toNat]? = ((fun x => xs[x]?) ∘ fun k => xs.size - 1 - k) m := by rw [e] <;> rfl
        rw [List.filterMap_cons, List.filterMap_cons, e2, ih fun q hq => hm q (List.mem_cons_of_mem _ hq)]
    exact go _ fun m hm => List.mem_range.mp hm
  rw [e, PySem.W.krv_range, List.filterMap_reverse, PySem.W.krv_all]
theorem getItem_tuple_rev {t sl : Addr} {items : Array Value} {vl vu vs : Value} {Q : Value → Shared → Prop} (ht : IsTup s.heap t items) (hs : s.heap.IsSliceOf sl vl vu vs) (pl : IsPart vl none) (pu : IsPart vu none) (ps : IsPart vs (some (-1)))
    (h : Q (.ref s.heap.objs.size) { s with heap := s.heap.push { cls := .type "tuple", data := .seq items.toList.reverse.toArray } }) (hsz : items.size ≤ sizeLine) : wpAny (model prog w) A (getItem (.ref t) (.ref sl)) Q E s := by
  have htake : sizeOk (.seq items.toList.reverse.toArray) := by
    show items.toList.reverse.toArray.size ≤ sizeLine
    rw [List.size_toArray, List.length_reverse, Array.length_toList]
    exact hsz
  obtain ⟨os, hos, hcs, hds⟩ := id hs
  have hTs : s.TypeIs (.ref sl) "slice" := ⟨os, hos, hcs⟩
  unfold getItem
  try with_reducible refine wpAny_holding ?_
  first | refine wpAny_bind (wpAny_pure ?_) | skip
  refine wpAny_bind (wpAny_sequenceKey ht.typeIs (by decide) ?_)
  refine wpAny_bind (wpAny_callSpecial?_slot (name := Str.ofString "__getitem__") ht.typeIs PyProof.Rows.slot_tuple_getitem
    (wpAny_call_entry PyProof.Rows.slot_tuple_getitem ht.typeIs entry_tuple_getitem ?_ (args_tuple_getitem _ _)))
  show wpAny _ _ (Builtin.Tuple.tupleItemsOf (.ref t) >>= _) _ _ s
  refine wpAny_bind (tupleItemsOf_ ht ?_)
  refine wpAny_bind (wpAny_typeOf hTs ?_)
  rw [if_pos (by decide)]
  refine wpAny_bind (sliceApplied_rev hs pl pu ps ?_)
  have hno : ¬ ((((items.size : Int) - 1) == 0 && (-1 : Int) == 1 && items.size == items.size) = true) := by
    intro q
    rw [Bool.and_eq_true, Bool.and_eq_true] at q
    exact absurd q.1.2 (by decide)
  show wpAny _ _ (if (((items.size : Int) - 1) == 0 && (-1 : Int) == 1 && items.size == items.size) = true then _ else _) _ _ s
  rw [if_neg hno, pick_rev]
  first
    | exact wpAny_bind (m := Builtin.Tuple.tupleExact _) (wpAny_newObj_type (wpAny_pure ⟨_, rfl, wpAny_pure h⟩) htake)
    | exact wpAny_bind (m := Builtin.Tuple.tupleExact _) (wpAny_newObj_type (wpAny_bind (wpAny_pure (wpAny_pure ⟨_, rfl, wpAny_pure h⟩))) htake)
    | exact wpAny_bind (wpAny_bind (m := Builtin.Tuple.tupleExact _) (wpAny_newObj_type (wpAny_pure (wpAny_pure ⟨_, rfl, wpAny_pure h⟩)) htake))
    | exact wpAny_bind (wpAny_bind (m := Builtin.Tuple.tupleExact _) (wpAny_newObj_type (wpAny_pure ⟨_, rfl, wpAny_pure h⟩) htake))
end
def tRevT (K : PySem.W.Frag) (te : TE) : TE := fun σ H Q => te σ H fun x H1 => ∃ a xs, x = .ref a ∧ SqT K H1 a xs ∧ ∀ p, H1 p = none → Q (.ref p) (upd H1 p (.tup xs.reverse))
theorem pe_revT {X : Cx} {e : Expr} {te : TE} {k : Nat} {p1 p2 p3 pos : Pos} (he : PE X e te) : PE X (.Subscript e (.Slice none none (some (.UnaryOp .USub (.Constant (.int 1) k p1) p2)) p3) pos) (tRevT X.K te) := by
  refine ⟨fun pins s σ H Q I h => ?_⟩
  refine Subscript_ (thn (he.run pins s σ H _ I h) fun v s1 ⟨x, H1, I1, r1, q1⟩ => ?_)
  obtain ⟨a, xs, ex, hx, q⟩ := q1
  subst ex
  cases r1
  have hst : PO X (some (.UnaryOp .USub (.Constant (.int 1) k p1) p2)) (tPart (tUn (rU fun i => .int (-i)) (tC (.int 1)))) := po_some (pe_un un_neg pe_int)
  refine wpAny_Slice (thn (po_none.run pins s1 σ H1 (fun o H2 => o = none ∧ H2 = H1) I1 ⟨rfl, rfl⟩) fun vl s2 ⟨l, H2, I2, pl, el, e2⟩ => ?_)
  subst el e2
  refine thn (po_none.run pins s2 σ H2 (fun o H3 => o = none ∧ H3 = H2) I2 ⟨rfl, rfl⟩) fun vu s3 ⟨u, H3, I3, pu, eu, e3⟩ => ?_
  subst eu e3
  refine thn (hst.run pins s3 σ H3 (fun o H4 => o = some (-1) ∧ H4 = H3) I3 ⟨1, rfl, -1, rfl, rfl, rfl⟩) fun vs s4 ⟨o, H4, I4, ps, eo, e4⟩ => ?_
  subst eo e4
  have I5 : Inv X pins σ H4 { s4 with heap := s4.heap.push { cls := .type "slice", data := .fields #[vl, vu, vs] } } := I4.kept (t' := s4.toks) fun b ob q => Heap.get?_push_of_some _ q
  obtain ⟨its, r, ht, hz⟩ := I5.tuple hx
  have hlen := r.length
  show wpAny (model X.prog X.w) X.A (subscriptTail e (.Slice none none (some (.UnaryOp .USub (.Constant (.int 1) k p1) p2)) p3) (.ref a) (.ref s4.heap.objs.size)) (EP X pins σ Q) X.xe { s4 with heap := s4.heap.push { cls := .type "slice", data := .fields #[vl, vu, vs] } }
  refine tail_any (ops := [.ref a, .ref s4.heap.objs.size]) ht.typeIs (PyProof.Rows.slot_tuple_getitem.lookup) ?_ (by with_unfolding_all rfl)
  refine getItem_tuple_rev ht (Heap.IsSliceOf.new _ vl vu vs) pl pu ps ?_ (by rw [List.size_toArray]; omega)
  refine ⟨.ref _, _, I5.laid (t' := s4.toks) (o := .tup xs.reverse) (fun b ob q => Heap.get?_push_of_some _ q) (Nat.le_refl _) ?_, rfl, q _ (I5.hok.fresh (Nat.le_refl _))⟩
  exact ⟨by rw [List.length_reverse]; exact hz, _, r.reverse, IsTup.new _ _⟩
end LL
set_option maxHeartbeats 4000000
namespace LL
open PySem PySem.Spec PyProof.Rows L2 PySem.Calls
section
open PySem.AutoSeq1
theorem list_extend_tup (l : Addr) (items : Array Value) (n : Nat) (b : Addr) (items2 : Array Value) (n2 : Nat) (dd : Option Addr) (sl : Array (Option Value)) (hs0 : ¬(!items.isEmpty && Builtin.List.listTooLong (items.size + items2.size)) = true) (hs1 : items.size ≤ sizeLine) (hs2 : items.size + items2.size ≤ sizeLine + 1) :
    Meets (Builtin.«list.extend» ⟨[.ref l, .ref b], []⟩) (fun _ R s => s.heap.get? l = some { cls := .type "list", dict := none, data := .seq items n, slots := #[] } ∧ s.heap.get? b = some { cls := .type "tuple", dict := dd, data := .seq items2 n2, slots := sl } ∧ R (.ok (.ret Value.none)) { s with heap := s.heap.update l (Obj.mapSeq fun x => x ++ items2), toks := s.toks }) :=
  .of_wp fun prog w A R s h => by
    obtain ⟨hp, g, d, tk, os⟩ := s; obtain ⟨hl, hb, h⟩ := h; have f1 := idx_int; have f2 := AutoSeq1.sub_tuple_tuple; have f3 := AutoSeq1.sub_list_list; have f4 := AutoSeq1.sub_tuple_list; have f5 := AutoSeq1.sub_list_tuple;
    have hz' : (items ++ items2).size ≤ sizeLine + 1 := by rw [Array.size_append]; exact hs2
    wp_walk using (wpAny_updateSeq hl rfl (hz := hs1) (_hz' := hz')), wpAny_loadPart' hl, wpAny_loadPart' hb; exact ⟨_, rfl, h⟩
end
/-- xs.extend(t), t a tuple -/
def rExtendT (K : PySem.W.Frag) : V → List V → Hp → VK → Prop := fun x vs H Q => ∃ l b xs zs, x = .ref l ∧ vs = [.ref b] ∧ H l = some (.lst xs) ∧ SqT K H b zs ∧ xs.length + zs.length ≤ sizeLine ∧ Q .non (upd H l (.lst (xs ++ zs)))
theorem mt_extendT {X : Cx} : MtM X "list.extend" (rExtendT X.K) := by
  intro pins s σ H x vs v us Q I rx rv h
  obtain ⟨l, b, xs, zs, rfl, rfl, hH, hB, hz, q⟩ := h
  cases rx
  obtain ⟨u, rfl, ru⟩ := rv.one
  cases ru
  obtain ⟨z, its, n, r, hl, e⟩ := I.lstM hH
  obtain ⟨its2, r2, ht, z2⟩ := I.tuple hB
  have hl2 := r2.length
  obtain ⟨⟨cls2, dd2, data2, sl2⟩, ho2, hc2, n2, hd2⟩ := id ht
  simp only at hc2 hd2
  subst hc2 hd2
  have hsz : its.toArray.size + its2.toArray.size ≤ sizeLine := by rw [List.size_toArray, List.size_toArray]; omega
  have hlong : ¬ (!its.toArray.isEmpty && Builtin.List.listTooLong (its.toArray.size + its2.toArray.size)) = true := by
    rw [notLongL hsz, Bool.and_false]
    exact Bool.false_ne_true
  refine call_meets F.slot_list_extend ⟨_, e, rfl⟩ F.entry_list_extend (F.args_list_extend_2 _ _)
    (list_extend_tup l its.toArray n b its2.toArray n2 dd2 sl2 hlong (by rw [List.size_toArray]; omega) (by omega)) ⟨e, ho2, ?_⟩
  refine ⟨.non, _, I.lset (its' := its ++ its2) hH e (by simp) (r.append r2) ?_, rfl, q⟩
  rw [List.length_append]
  omega
end LL
set_option maxHeartbeats 4000000
/-! del xs[a:] of a list -/
namespace LL
open PySem PySem.Spec PyProof.Rows L2 PySem.Calls
section
variable {prog : Program} {w : World} {A : Around} {E : Value → Shared → Prop} {s : Shared}
theorem bounds_from {a n : Nat} (ha : a ≤ n) : sliceBounds (some (a : Int)) none none n = ((a : Int), (n : Int), 1) := by
  simp only [sliceBounds, Option.getD_none]
  have h1 : ¬ ((a : Int) < 0) := by omega
  simp only [h1, if_false, show (1 : Int) > 0 by decide, if_true]
  congr 1
  omega
theorem keep_head (xs : List Value) (a : Nat) (ha : a ≤ xs.length) (P : Nat → Bool) (hP : ∀ k, k < xs.length → (P k = true ↔ a ≤ k)) : ((xs.zipIdx).filterMap fun q : Value × Nat => if P q.2 = true then none else some q.1) = xs.take a := by
  have go : ∀ (ys : List Value) (j : Nat), (∀ k, j ≤ k → k < j + ys.length → (P k = true ↔ a ≤ k)) → ((ys.zipIdx j).filterMap fun q : Value × Nat => if P q.2 = true then none else some q.1) = ys.take (a - j) := by
    intro ys
    induction ys with
    | nil => intro j _; simp
    | cons y ys ih =>
      intro j h
      rw [List.zipIdx_cons, List.filterMap_cons]
      have h0 := h j (Nat.le_refl _) (by simp)
      have hr := ih (j + 1) fun k h1 h2 => h k (by omega) (by rw [List.length_cons]; omega)
      by_cases hj : a ≤ j
      · dsimp only
        rw [if_pos (h0.mpr hj), hr]
        have e1 : a - j = 0 := by omega
        have e2 : a - (j + 1) = 0 := by omega
        rw [e1, e2, List.take_zero, List.take_zero]
      · dsimp only
        rw [if_neg (fun q => hj (h0.mp q)), hr]
        have e1 : a - j = (a - (j + 1)) + 1 := by omega
        rw [e1, List.take_succ_cons]
  have := go xs 0 fun k _ h2 => hP k (by omega)
  simpa using this
def sel1 (a n : Int) (k : Nat) : Bool := if (1 : Int) > 0 then a ≤ k && k < n && (k - a) % 1 == 0 else n < k && k ≤ a && (a - k) % (-1) == 0
set_option maxRecDepth 100000 in
theorem delItem_slice {l sl : Addr} {items : Array Value} {n : Nat} {vl vu : Value} {a : Nat} {Q : Unit → Shared → Prop} (e : s.heap.get? l = some { cls := .type "list", data := .seq items n }) (hs : s.heap.IsSliceOf sl vl vu .none) (pl : IsPart vl (some (a : Int))) (pu : IsPart vu none)
    (ha : a ≤ items.size) (hsz : items.size ≤ sizeLine) (h : ∀ f : Array Value → Array Value, f items = (items.toList.take a).toArray → Q () { s with heap := s.heap.update l (Obj.mapSeq f) }) : wpAny (model prog w) A (delItem (.ref l) (.ref sl)) Q E s := by
  have hl : s.heap.IsList l items := PySem.IsL.isList e
  obtain ⟨os, hos, hcs, hds⟩ := id hs
  have hTs : s.TypeIs (.ref sl) "slice" := ⟨os, hos, hcs⟩
  have hstep : ¬ ((rawPart none == rawInt 0) = true) := Bool.false_ne_true
  refine wpAny_delItem_slot hl.typeIs (by decide) F.slot_list_delitem (wpAny_call_entry F.slot_list_delitem hl.typeIs F.entry_list_delitem ?_ (F.args_list_delitem_2 _ _))
  show wpAny _ _ (Builtin.List.listSubscript? (.ref sl) >>= _) _ _ s
  refine wpAny_bind ?_
  unfold Builtin.List.listSubscript?
  refine wpAny_bind (wpAny_specialOf hTs slice_no_index ?_)
  simp only [Option.isNone_none, if_true]
  refine wpAny_pure ?_
  show wpAny _ _ (typeOf (.ref sl) >>= _) _ _ s
  refine wpAny_bind (wpAny_typeOf hTs ?_)
  first
    | rw [if_neg (by decide)]
    | refine PySem.W.KFB.if_not (by decide) ?_
  first | refine wpAny_bind (wpAny_pure ?_) | skip
  rw [listSliceParts_eq]
  refine wpAny_bind (wpAny_bind (wpAny_field hos hds (x := .none) rfl (wpAny_bind (wpAny_listPart .none ?_))))
  rw [if_neg hstep]
  refine wpAny_bind (wpAny_field hos hds (x := vl) rfl (wpAny_bind (wpAny_listPart pl ?_)))
  refine wpAny_bind (wpAny_field hos hds (x := vu) rfl (wpAny_bind (wpAny_listPart pu (wpAny_pure ?_))))
  dsimp only
  unfold Builtin.List.listItems
  refine wpAny_bind (wpAny_bind (wpAny_seqItems e rfl (wpAny_pure ?_)))
  refine wpAny_bind (wpAny_of_eq ((sliceIndices_raw (some (a : Int)) none none items.size (by simp)).trans (congrArg (pure : Int × Int × Int → Sem (Int × Int × Int)) (bounds_from ha))) ?_)
  refine wpAny_bind (wpAny_rule ?_)
  have step : ∀ (f : Array Value → Array Value) (gone : List Value), f items = (items.toList.take a).toArray →
      wpAny (model prog w) A.in1 (do Builtin.List.listUpdate (.ref l) f; letGo gone; ret .none) (fun fin s' => ∃ v, fin = Fin.done (Flow.ret v) ∧ Q () s') E s := by
    intro f gone hf
    have hz' : (f items).size ≤ sizeLine + 1 := by
      rw [hf, List.size_toArray, List.length_take, Array.length_toList]
      omega
    show wpAny _ _ (updateSeq l f >>= _) _ _ s
    refine wpAny_bind (wpAny_updateSeq (hz := hsz) (_hz' := hz') e rfl ?_)
    refine wpAny_bind (wpAny_letGo ?_)
    exact wpAny_pure ⟨.none, rfl, h f hf⟩
  refine step _ _ ?_
  have q := keep_head items.toList a (by rw [Array.length_toList]; exact ha) (sel1 (a : Int) (items.size : Int)) (fun k hk => by
    unfold sel1
    rw [Array.length_toList] at hk
    rw [if_pos (by decide)]
    simp
    omega)
  exact congrArg List.toArray q
end
section
variable {X : Cx}
theorem del_from {pins : List (Addr × Obj)} {s : Shared} {σ : L2.St} {H : Hp} {l sl : Addr} {xs : List V} {a : Int} {vl vu : Value} {Q : Unit → Shared → Prop} (I : Inv X pins σ H s) (hH : H l = some (.lst xs)) (hs : s.heap.IsSliceOf sl vl vu .none) (pl : IsPart vl (some a)) (pu : IsPart vu none)
    (h0 : 0 ≤ a) (ha : a ≤ xs.length) (h : ∀ s', Inv X pins σ (upd H l (.lst (xs.take a.toNat))) s' → Q () s') : wpAny (model X.prog X.w) X.A (delItem (.ref l) (.ref sl)) Q X.xe s := by
  obtain ⟨z, its, n, r, hl, e⟩ := I.lstM hH
  obtain ⟨k, rfl⟩ := Int.eq_ofNat_of_zero_le h0
  refine delItem_slice (a := k) e hs pl pu (by rw [List.size_toArray]; omega) (by rw [List.size_toArray]; omega) fun f hf => h _ ?_
  refine I.lset (its' := its.take k) (t' := s.toks) hH e ?_ (r.take k) ?_
  · simpa using hf
  · rw [List.length_take]
    omega
/-- del xs[a:] -/
def tDelF (to : TE) (tl : TO) : TS := fun D σ H => to σ H fun x H1 => tl σ H1 fun o H2 => ∃ (l : Addr) (xs : List V) (i : Int), x = .ref l ∧ o = some i ∧ H2 l = some (.lst xs) ∧ 0 ≤ i ∧ i ≤ xs.length ∧ D.nx σ (upd H2 l (.lst (xs.take i.toNat)))
theorem ps_delF {o : Expr} {lo : Option Expr} {to : TE} {tl : TO} {p3 tpos pos : Pos} (ho : PE X o to) (hi : PO X lo tl) : PS X (.Delete [.Subscript o (.Slice lo none none p3) tpos] pos) (tDelF to tl) := by
  refine ⟨fun pins s σ H D I h => ?_⟩
  refine wpAny_Delete (wpAny_deleteEach_cons (wpAny_delete_Subscript (thn (ho.run pins s σ H _ I h) fun u s1 ⟨x, H1, I1, rx, q1⟩ => ?_)))
  refine wpAny_Slice (thn (hi.run pins s1 σ H1 _ I1 q1) fun vl s2 ⟨o, H2, I2, pl, l, xs, k, ex, eo, hH, h1, h2, q2⟩ => ?_)
  subst ex eo
  cases (show u = Value.ref l from rx)
  refine thn (po_none.run pins s2 σ H2 (fun o H3 => o = none ∧ H3 = H2) I2 ⟨rfl, rfl⟩) fun vu s3 ⟨o3, H3, I3, pu, eu, e3⟩ => ?_
  subst eu e3
  refine thn (po_none.run pins s3 σ H3 (fun o H4 => o = none ∧ H4 = H3) I3 ⟨rfl, rfl⟩) fun vs s4 ⟨o4, H4, I4, ps, eo4, e4⟩ => ?_
  subst eo4 e4
  cases ps
  have I5 : Inv X pins σ H4 { s4 with heap := s4.heap.push { cls := .type "slice", data := .fields #[vl, vu, .none] } } := I4.kept (t' := s4.toks) fun b ob q => Heap.get?_push_of_some _ q
  exact del_from I5 hH (Heap.IsSliceOf.new _ vl vu .none) pl pu h1 h2 fun s5 I6 => wpAny_deleteEach_nil ⟨σ, _, I6, q2⟩
end
end LL
set_option maxHeartbeats 4000000
/-! Nested data over the abstract heap, with dicts, apart from one address l (the hand); its repr. -/
namespace LL
open PySem PySem.Spec PyProof.Rows L2
def kD : Key → PyData
  | .inl i => .int i
  | .inr x => .str x
mutual
inductive Dz (l : Addr) (H : Hp) : V → PyData → Prop
  | non : Dz l H .non .none
  | bl (b : Bool) : Dz l H (.bl b) (.bool b)
  | int (i : Int) : Dz l H (.int i) (.int i)
  | str (x : Str) : Dz l H (.str x) (.str x)
  | lst {a : Addr} {xs : List V} {ds : List PyData} (ne : a ≠ l) (h : H a = some (.lst xs)) (hs : Dzs l H xs ds) : Dz l H (.ref a) (.list ds)
  | tup {a : Addr} {xs : List V} {ds : List PyData} (ne : a ≠ l) (h : H a = some (.tup xs)) (hs : Dzs l H xs ds) : Dz l H (.ref a) (.tuple ds)
  | dic {a : Addr} {kvs : List (Key × V)} {ds : List PyData} (ne : a ≠ l) (h : H a = some (.dK kvs)) (hs : Dzs l H (kvs.map (·.2)) ds) : Dz l H (.ref a) (.dict ((kvs.map fun p => kD p.1).zip ds))
  | dit {a : Addr} {kvs : List (List Key × V)} {ds : List PyData} (ne : a ≠ l) (h : H a = some (.dT kvs)) (hs : Dzs l H (kvs.map (·.2)) ds) : Dz l H (.ref a) (.dict ((kvs.map fun p => PyData.tuple (p.1.map kD)).zip ds))
inductive Dzs (l : Addr) (H : Hp) : List V → List PyData → Prop
  | nil : Dzs l H [] []
  | cons {v : V} {vs : List V} {d : PyData} {ds : List PyData} (h : Dz l H v d) (hs : Dzs l H vs ds) : Dzs l H (v :: vs) (d :: ds)
end
/-- what was tracked stands, but at l -/
def Exl (l : Addr) (H H' : Hp) : Prop := ∀ a o, a ≠ l → H a = some o → H' a = some o
theorem Exl.refl (l : Addr) (H : Hp) : Exl l H H := fun _ _ _ h => h
theorem Exl.trans {l : Addr} {H H1 H2 : Hp} (a : Exl l H H1) (b : Exl l H1 H2) : Exl l H H2 := fun x o n h => b x o n (a x o n h)
theorem Exl.of {l : Addr} {H H1 : Hp} (a : Evl.Ex H H1) : Exl l H H1 := fun x o _ h => a x o h
theorem Exl.upd {l : Addr} {H : Hp} {o : HO} : Exl l H (upd H l o) := fun x u n h => by rw [upd_ne n]; exact h
mutual
theorem Dz.mono {l : Addr} {H H' : Hp} (e : Exl l H H') : ∀ {v : V} {d : PyData}, Dz l H v d → Dz l H' v d
  | _, _, .non => .non
  | _, _, .bl b => .bl b
  | _, _, .int i => .int i
  | _, _, .str x => .str x
  | _, _, .lst n h hs => .lst n (e _ _ n h) (Dzs.mono e hs)
  | _, _, .tup n h hs => .tup n (e _ _ n h) (Dzs.mono e hs)
  | _, _, .dic n h hs => .dic n (e _ _ n h) (Dzs.mono e hs)
  | _, _, .dit n h hs => .dit n (e _ _ n h) (Dzs.mono e hs)
theorem Dzs.mono {l : Addr} {H H' : Hp} (e : Exl l H H') : ∀ {vs : List V} {ds : List PyData}, Dzs l H vs ds → Dzs l H' vs ds
  | _, _, .nil => .nil
  | _, _, .cons h hs => .cons (Dz.mono e h) (Dzs.mono e hs)
end
theorem Dzs.length {l : Addr} {H : Hp} : ∀ {vs : List V} {ds : List PyData}, Dzs l H vs ds → vs.length = ds.length
  | _, _, .nil => rfl
  | _, _, .cons _ hs => congrArg (· + 1) (Dzs.length hs)
/-- the table of modules is a dict that the written part holds -/
def Sys (K : PySem.W.Frag) : Prop := ∃ o, K.lookup sysModules = some o ∧ o.cls = .type "dict"
section
variable {X : Cx} {pins : List (Addr × Obj)} {σ : L2.St} {H : Hp} {s : Shared}
theorem Sys.ne (y : Sys X.K) (I : Inv X pins σ H s) {a : Addr} {o : Obj} {c : String} (e : s.heap.get? a = some o) (hc : o.cls = .type c) (n : c ≠ "dict") : a ≠ sysModules := fun z => by
  obtain ⟨q, e2, c2⟩ := y
  have e3 := I.kIn _ _ e2
  rw [z, e3] at e
  have z2 := Option.some.inj e
  subst z2
  rw [c2] at hc
  exact n (Value.type.inj hc).symm
theorem reads_key {h : Heap} {k : Key} {u : Value} (hk : keyIs k u = true) : Reads h u (kD k) [] := by
  rcases keyIs_shape hk with ⟨i, t, rfl, rfl⟩ | ⟨x, t, rfl, rfl⟩
  · exact .int i t
  · exact .str x t
theorem reads_items {h : Heap} : ∀ {ks : List Key} {us : List Value}, Vals (ks.map kV) us → ReadsAll h us (ks.map kD) []
  | [], us, r => by
    rw [List.map_nil] at r
    cases r
    exact .nil
  | k :: ks, us, r => by
    rw [List.map_cons] at r
    cases r with
    | cons a b =>
      rename_i u us'
      have q : Reads h u (kD k) [] := by
        cases k with
        | inl i => obtain ⟨t, e⟩ := a; subst e; exact .int i t
        | inr x => obtain ⟨t, e⟩ := a; subst e; exact .str x t
      exact .cons q (reads_items b)
theorem reads_pairs {prog : Program} {w : World} (h : Heap) : ∀ {es : List DictEntry} {vs : List (Key × Value)}, Pairs (mixKind prog w) es vs → ∀ {kvs : List (Key × V)}, KV kvs vs →
    ReadsAll h (es.map (·.key)) (kvs.map fun p => kD p.1) [] ∧ Vals (kvs.map (·.2)) (es.map (·.val))
  | _, _, .nil, kvs, r => by
    cases r
    exact ⟨.nil, .nil⟩
  | _, _, .cons hk hv t, kvs, r => by
    cases r with
    | @cons p q ps qs a b =>
      obtain ⟨h1, h2⟩ := reads_pairs h t b
      obtain ⟨a1, a2⟩ := a
      refine ⟨.cons (as := []) (bs := []) (by show Reads h _ (kD p.1) []; rw [a1]; exact reads_key hk) h1, .cons (by dsimp only; rw [hv]; exact a2) h2⟩
theorem reads_tups (I : Inv X pins σ H s) : ∀ {kvs : List (List Key × V)} {xs : List (List Key × Addr × Value)}, KT H kvs xs →
    ReadsAll s.heap (xs.map fun x => Value.ref x.2.1) (kvs.map fun p => PyData.tuple (p.1.map kD)) [] ∧ Vals (kvs.map (·.2)) (xs.map fun x => x.2.2)
  | _, _, .nil => ⟨.nil, .nil⟩
  | _, _, .cons (a := p) (b := q) a b => by
    obtain ⟨h1, h2⟩ := reads_tups I b
    obtain ⟨_, its, rv, o, e1, e2, n, e3⟩ := (show ObjOk X.prog X.w H s.heap q.2.1 (.tup (p.1.map kV)) from I.hok _ _ a.2.1)
    exact ⟨.cons (as := []) (bs := []) (.tuple e1 e2 e3 (by simpa using reads_items rv)) h1, .cons a.2.2 h2⟩
theorem zip_fst {α β : Type} : ∀ {as : List α} {bs : List β}, as.length = bs.length → (as.zip bs).map (·.1) = as
  | [], [], _ => rfl
  | a :: as, b :: bs, h => congrArg (a :: ·) (zip_fst (Nat.succ.inj h))
theorem zip_snd {α β : Type} : ∀ {as : List α} {bs : List β}, as.length = bs.length → (as.zip bs).map (·.2) = bs
  | [], [], _ => rfl
  | a :: as, b :: bs, h => congrArg (b :: ·) (zip_snd (Nat.succ.inj h))
mutual
theorem Dz.reads (y : Sys X.K) (I : Inv X pins σ H s) {l : Addr} : ∀ {v : V} {d : PyData} {u : Value}, Dz l H v d → RelV v u → ∃ as, Reads s.heap u d as ∧ sysModules ∉ as
  | _, _, _, .non, r => by cases (show _ = Value.none from r); exact ⟨[], .none, by simp⟩
  | _, _, _, .bl b, r => by cases (show _ = Value.bool b from r); exact ⟨[], .bool b, by simp⟩
  | _, _, _, .int i, r => by obtain ⟨t, e⟩ := r; subst e; exact ⟨[], .int i t, by simp⟩
  | _, _, _, .str x, r => by obtain ⟨t, e⟩ := r; subst e; exact ⟨[], .str x t, by simp⟩
  | _, _, _, .lst (a := a) (xs := xs) n h hs, r => by
    cases (show _ = Value.ref a from r)
    obtain ⟨_, its, m, rv, e⟩ := (show ObjOk X.prog X.w H s.heap a (.lst xs) from I.hok _ _ h)
    obtain ⟨as, q, z⟩ := Dzs.reads y I hs rv
    refine ⟨a :: as, .list e rfl rfl (by simpa using q), fun hm => ?_⟩
    rcases List.mem_cons.mp hm with e2 | e2
    · exact y.ne I e rfl (by decide) e2.symm
    · exact z e2
  | _, _, _, .tup (a := a) (xs := xs) n h hs, r => by
    cases (show _ = Value.ref a from r)
    obtain ⟨_, its, rv, o, e1, e2, m, e3⟩ := (show ObjOk X.prog X.w H s.heap a (.tup xs) from I.hok _ _ h)
    obtain ⟨as, q, z⟩ := Dzs.reads y I hs rv
    exact ⟨as, .tuple e1 e2 e3 (by simpa using q), z⟩
  | _, _, _, .dic (a := a) (kvs := kvs) (ds := ds) n h hs, r => by
    cases (show _ = Value.ref a from r)
    obtain ⟨_, hS, vs, kv, o, es, ep, e1, e2, e3, _, e5, _⟩ := (show ObjOk X.prog X.w H s.heap a (.dK kvs) from I.hok _ _ h)
    obtain ⟨q1, rv⟩ := reads_pairs s.heap e5 kv
    obtain ⟨as, q, z⟩ := Dzs.reads y I hs rv
    have hl : (kvs.map fun p => kD p.1).length = ds.length := by rw [List.length_map, ← hs.length, List.length_map]
    refine ⟨a :: [] ++ as, .dict e1 e2.1 e3 (by rw [zip_fst hl]; exact q1) (by rw [zip_snd hl]; exact q), fun hm => ?_⟩
    rcases List.mem_cons.mp (show sysModules ∈ a :: as from hm) with e6 | e6
    · exact (beq_eq_false_iff_ne.mp hS) e6.symm
    · exact z e6
  | _, _, _, .dit (a := a) (kvs := kvs) (ds := ds) n h hs, r => by
    cases (show _ = Value.ref a from r)
    obtain ⟨_, hS, xs, kt, o, es, ep, e1, e2, e3, e4, _⟩ := (show ObjOk X.prog X.w H s.heap a (.dT kvs) from I.hok _ _ h)
    obtain ⟨q1, rv⟩ := reads_tups I (show KT H kvs xs from kt)
    obtain ⟨as, q, z⟩ := Dzs.reads y I hs rv
    have hl : (kvs.map fun p => PyData.tuple (p.1.map kD)).length = ds.length := by rw [List.length_map, ← hs.length, List.length_map]
    have k1 : es.toList.map (·.key) = xs.map fun x => Value.ref x.2.1 := by rw [e4, List.map_map]; rfl
    have k2 : es.toList.map (·.val) = xs.map fun x => x.2.2 := by rw [e4, List.map_map]; rfl
    refine ⟨a :: [] ++ as, .dict e1 e2.1 e3 (by rw [zip_fst hl, k1]; exact q1) (by rw [zip_snd hl, k2]; exact q), fun hm => ?_⟩
    rcases List.mem_cons.mp (show sysModules ∈ a :: as from hm) with e6 | e6
    · exact (beq_eq_false_iff_ne.mp hS) e6.symm
    · exact z e6
theorem Dzs.reads (y : Sys X.K) (I : Inv X pins σ H s) {l : Addr} : ∀ {vs : List V} {ds : List PyData} {us : List Value}, Dzs l H vs ds → Vals vs us → ∃ as, ReadsAll s.heap us ds as ∧ sysModules ∉ as
  | _, _, _, .nil, r => by cases r; exact ⟨[], .nil, by simp⟩
  | _, _, _, .cons h hs, r => by
    cases r with
    | cons r1 r2 =>
      obtain ⟨as, q1, z1⟩ := Dz.reads y I h r1
      obtain ⟨bs, q2, z2⟩ := Dzs.reads y I hs r2
      exact ⟨as ++ bs, .cons q1 q2, fun hm => (List.mem_append.mp hm).elim z1 z2⟩
end
end
/-- repr of a list, a tuple, a dict -/
def rRepr (l : Addr) : List V → Hp → VK → Prop := fun xs H Q => ∃ (a : Addr) (d : PyData), xs = [.ref a] ∧ Dz l H (.ref a) d ∧ d.showable = true ∧ d.depth ≤ 62 ∧ d.shown.length ≤ sizeLine ∧ Q (.str d.shown) H
theorem call_repr {X : Cx} {l : Addr} (y : Sys X.K) (hg : X.A.guards = some []) (hu : X.A.units + 64 < cLine) : CallR X (.builtin "repr") (rRepr l) := by
  intro pins s σ H xs us Q I r h
  obtain ⟨a, d, rfl, hd, hs, hp, hz, q⟩ := h
  obtain ⟨u, rfl, r1⟩ := vals1 r
  cases (show u = Value.ref a from r1)
  obtain ⟨as, rd, ns⟩ := hd.reads y I rfl
  exact repr_of_reads' rd hs (fun _ => ns) hg (by omega) (fun _ _ e => e) (fun h' u tk k => ⟨.str d.shown, H, I.kept (t' := tk) k, ⟨u, rfl⟩, q⟩) hz
end LL
set_option maxHeartbeats 4000000
/-! Defs whose frames stand outside of any repr that runs: their promise is asked at such callers alone. -/
namespace LL
open PySem PySem.Spec PyProof.Rows L2
/-- as FnOk, of callers without a guard on the stack -/
structure FnG (P : Program) (w : World) (K : PySem.W.Frag) (mg : Str → Option Value) (base : Heap) (CX : CXT) (k : Nat) (f : Addr) (fd : FuncData) (ps : List Str) (sp : Sp) : Prop where
  many : ∀ {vs H Q E}, sp vs H Q E → vs.length = ps.length
  go : ∀ {A : Around} {outer : List Env} {s : Shared} {H : Hp} {args : Args} {us : List Value} {vs : List V} {Q : VK} {E : XK}, A.guards = some [] → Room k A → Env0 P w K mg base A outer s H →
    BindsTo s fd args (ps.zip us) → Vals vs us → sp vs H Q E → codeAny (model P w) A (.call (.ref f) args) (CR CX outer P w H s Q E) s
section
variable {P : Program} {w : World} {K : PySem.W.Frag} {mg : Str → Option Value} {base : Heap} {CX : CXT}
theorem FnG.of {k : Nat} {f : Addr} {fd : FuncData} {ps : List Str} {sp : Sp} (F : FnOk P w K mg base CX k f fd ps sp) : FnG P w K mg base CX k f fd ps sp :=
  ⟨fun h => F.len _ _ _ _ h, fun _ hr e b r h => F.run _ _ _ _ _ _ _ _ _ hr e b r h⟩
theorem guards_deeper {A : Around} {env : Env} (h : A.guards = some []) : (A.deeper env).guards = some [] := by
  first | exact h | simpa [Around.deeper] using h
/-- the rule for a def of the text -/
theorem fnG_of {k : Nat} {f : Addr} {x qual : Str} {params : Arguments} {body : List Stmt} {scope : Scope} {fd : FuncData} {N ps : List Str} {sp : Sp} (F : FunD K x qual params body scope [] [] f fd) (S : FnScope N ps scope)
    (many : ∀ {vs H Q E}, sp vs H Q E → vs.length = ps.length)
    (hb : ∀ (cdv : Value) (A : Around) (outer : List Env) (s : Shared) (H : Hp) (vs : List V) (Q : VK) (E : XK), A.guards = some [] → Room k (A.deeper (envOfC qual scope s.heap.objs.size f cdv)) → sp vs H Q E →
      ∃ t, PSs (cxOf CX P w K mg base N qual scope f cdv A outer s H E) body t ∧ t { nx := fun _ H' => Q .non H', rt := Q } (start N vs) H) : FnG P w K mg base CX (k + 1) f fd ps sp := by
  obtain ⟨oc, od, dV, kV, doc, pm, an, cdv, ct, osl, e, lk, code, _, _⟩ := F.ex
  subst e
  constructor
  · exact many
  · intro A outer s H args us vs Q E hg hr e0 bound r h
    obtain ⟨t, ht, q⟩ := hb cdv A outer s H vs Q E hg (hr.deeper _) h
    have kp : ∀ b o, base.get? b = some o → s.heap.get? b = some o := fun b o z => (e0.bs b o z).1
    have KX : K.In s.heap := e0.mod.kin.keeps kp
    refine codeAny_call_function hr.depth (KX _ _ lk) rfl S.co S.gen rfl (PySem.W.codeRec_of KX code) (bound _ _ _ _ (wpAny_newFunctionEnv_cells S.kind ?_ ?_))
    · intro y hy
      have hp := S.par y.1 (List.of_mem_zip (show (y.1, y.2) ∈ ps.zip us from hy)).1
      exact hp.elim Or.inl fun z => Or.inr ⟨z, PySem.W.cellsFrom_some _ _ _ (Or.inl z)⟩
    · intro env he s1 x
      cases he
      refine ⟨(e0.mod.nolimit.keeps kp).keeps x.toInCall.keep, codeAny_func (wpAny_mono (ht.run [] s1 (start N vs) H _ (inv_start S hr.hd e0 (many h) r x) q) ?_ fun _ _ z => z)⟩
      intro fl s2 z
      cases fl with
      | ret u =>
        obtain ⟨v, σ2, H2, J, rv, q2⟩ := z
        exact ⟨v, H2, J.os, J.bare, J.base, J.hok, rv, q2⟩
      | next =>
        obtain ⟨σ2, H2, J, q2⟩ := z
        exact ⟨.non, H2, J.os, J.bare, J.base, J.hok, rfl, q2⟩
      | brk =>
        obtain ⟨_, _, _, z⟩ := z
        exact z.elim
      | cont =>
        obtain ⟨_, _, _, z⟩ := z
        exact z.elim
end
/-- f(e, ..) of such a def -/
theorem pe_callG {X : Cx} {CX : CXT} {k : Nat} {f : Addr} {fd : FuncData} {ps : List Str} {sp : Sp} {E : XK} {x : Str} {p pos : Pos} {e : Expr} {es : List Expr} {t : TA} (F : FnG X.prog X.w X.K X.mg X.base CX k f fd ps sp) (hG : X.A.guards = some [])
    (hr : Room k X.A) (hg : Gl X x) (hm : X.mg x = some (.ref f)) (hk : PySem.W.keepIn X.K (.ref f) = true) (hb : Binds X.K fd ps []) (hx : Passes CX X E) (ha : PA X (e :: es) t) (hdb : (x == ("__debug__" : Str)) = false := by decide)
    (he : starEach (e :: es) X.env = (false, eval e X.env) :: starEach es X.env := by rfl) (hpl : (backTo pos (starEach es X.env)).any (·.1) = false := by rfl) : PE X (.Call (.Name x p) (e :: es) [] pos) (tCall sp [] E t) := by
  constructor
  intro pins s σ H Q I h
  refine wpAny_Call_Name_kw (ld_glob I hg hm ?_ hdb)
  refine PySem.W.callWith_K (h₀ := X.base) I.ok.mod.kin hk (thn (ha.run pos pins s σ H _ I h) ?_) he hpl
  rintro us s1 ⟨vs, H1, I1, r, q⟩
  have q1 : sp vs H1 Q E := by
    have z : sp (vs ++ []) H1 Q E := q
    rwa [List.append_nil] at z
  have l1 : (us ++ []).length = ps.length := by rw [List.append_nil, ← r.length]; exact F.many q1
  have b1 := hb s1 us I1.kIn l1
  rw [List.append_nil] at b1
  refine ⟨I1.kIn, wpAny_call (codeAny_mono (F.go hG hr I1.env0 b1 r q1) ?_)⟩
  intro res s2 z
  match res, z with
  | .error er, z => exact hx pins σ H1 s1 er s2 I1 z
  | .ok (.ret u), z => exact I1.after z
/-- at the law's own call, from a heap in which the script alone is tracked -/
theorem law_atG {P : Program} {w : World} {K : PySem.W.Frag} {mg mb : Str → Option Value} {CX : CXT} {k : Nat} {fa a : Addr} {fd : FuncData} {x : Str} {sp : Sp} {s : Shared} {vs : List Value} (H : Hp)
    (KX : K.In s.heap) (hns : s.heap.Ns mainGlobals mg) (hb : s.heap.Ns builtinsNs mb) (hbb : ∀ x : Str, x ≠ "__name__" → mb x = bootBuiltins x) (hlim : s.heap.NoLimit) (hg : s.gens = #[])
    (ha : s.heap.get? a = some { cls := .type "list", data := .seq vs.toArray }) (hr : Room k callerA)
    (F : ∀ base : Heap, K.In base → base.Ns mainGlobals mg → FnG P w K mg base CX k fa fd [x] sp) (hbind : ∀ (s : Shared) (u : Value), BindsTo s fd ⟨[u], []⟩ [(x, u)])
    (hO : Only H) (hok : HOk P w H s.heap) (hA : ∀ b, H b ≠ none → b = a) (hK : H a ≠ none → K.lookup a = none)
    (hsp : sp [.ref a] H (fun v _ => v = .bl true) fun _ _ _ => False) (hCX : ∀ e s', CX [] H s (fun _ _ _ => False) e s' → False) :
    codeAny (model P w) callerA (.call (.ref fa) ⟨[.ref a], []⟩) (fun r s' => r = .ok (.ret (.bool true)) ∧ OldK s.heap s'.heap ∧ s'.os = s.os ∧ AllBare s'.gens) s := by
  have free : ∀ {b : Addr}, b ≠ a → H b = none := fun {b} n => by
    rcases Option.eq_none_or_eq_some (H b) with z | ⟨u, z⟩
    · exact z
    · exact absurd (hA b (by rw [z]; exact nofun)) n
  have dic : ∀ {b : Addr} {m : Str → Option Value}, s.heap.Ns b m → (hidT s.heap H).Ns b m := fun {b m} z => by
    obtain ⟨o, es, ep, e1, e2, e3⟩ := z
    refine ⟨o, es, ep, hidT_get e1 (free fun q => ?_), e2, e3⟩
    rw [q, ha] at e1
    cases e1
    cases e2
  have kin : K.In (hidT s.heap H) := fun b o e => by
    by_cases n : b = a
    · refine hidT_get (KX b o e) ?_
      rw [n]
      rcases Option.eq_none_or_eq_some (H a) with z | ⟨u, z⟩
      · exact z
      · have y := hK (by rw [z]; exact nofun)
        rw [n, y] at e
        cases e
    · exact hidT_get (KX b o e) (free n)
  have md : Mod K mg (hidT s.heap H) := by
    obtain ⟨mc, l1, l2⟩ := hlim
    exact ⟨kin, dic hns, ⟨mb, dic hb, hbb⟩, mc, dic l1, l2⟩
  have en : Env0 P w K mg (hidT s.heap H) callerA [] s H := ⟨rfl, md, fun _ _ z => of_hidT z, by rw [hidT_size]; exact Nat.le_refl _, True.intro, fun _ z => (List.not_mem_nil z).elim, hok, .of_eq hg⟩
  refine codeAny_mono ((F _ kin (dic hns)).go (us := [.ref a]) (vs := [.ref a]) rfl hr en (hbind s (.ref a)) (.cons rfl .nil) hsp) ?_
  intro res s' z
  match res, z with
  | .error er, z => exact (hCX er s' z).elim
  | .ok (.ret u), z =>
    obtain ⟨v, H', os, bare, un, ok2, rv, q⟩ := z
    have e1 : v = .bl true := q
    rw [e1] at rv
    have e2 : u = Value.bool true := rv
    rw [e2]
    refine ⟨rfl, OldK.of_keep fun b o e => ?_, os, bare⟩
    rcases hO b with n | ⟨ob, xs, n⟩
    · exact un.keep b o e n List.not_mem_nil List.not_mem_nil
    · have e3 : s.heap.get? b = some ob := (hok b _ n).1
      have e4 : s'.heap.get? b = some ob := (ok2 b _ (un.frzs b ob _ n)).1
      rw [e4, ← e3, e]
/-- a law whose def keeps such a promise -/
theorem walk_ofG {l : PySem.W.OpenLaw} {n k : Nat} {q : Program} {loose : List Str} {XP : (Str → Option Value) → Heap → Prop} {YP : World → Heap → Prop} {d : DefRec} {CX : CXT} {x : Str}
    (hn : l.most = some n) (hn2 : n ≤ sizeLine) (hdf : d.params.defaults = []) (hr : Room k callerA)
    (F : ∀ (w : World) (mg : Str → Option Value) (fa : Addr) (h : Heap), YP w h → h.Ns mainGlobals mg → mg d.name = some (.ref fa) →
      ∃ (K : PySem.W.Frag) (fd : FuncData) (sp : Sp), K.In h ∧ (∀ (s : Shared) (u : Value), BindsTo s fd ⟨[u], []⟩ [(x, u)]) ∧
        (∀ (H : Hp) (a : Addr) (ns : List Int), ns.length ≤ n → Only H → SqL K H a (ns.map V.int) → sp [.ref a] H (fun v _ => v = .bl true) fun _ _ _ => False) ∧
        ∀ base : Heap, K.In base → base.Ns mainGlobals mg → FnG l.prog w K mg base CX k fa fd [x] sp)
    (hCX : ∀ (H : Hp) (s : Shared) (e : Value) (s' : Shared), CX [] H s (fun _ _ _ => False) e s' → False) :
    PySem.W.WalkO q loose XP YP l.row.toRowW d [] (fun f vs => PySem.call f vs) := by
  refine Att.attach_call hn hdf ?_
  intro w s₀ s₁ mg mb fa o pm cd doc a vs ns G Y ho hd hcd hmg hobj hints hlen hg
  obtain ⟨K, fd, sp, KX, hb, hsp, hF⟩ := F w mg fa _ Y G.T.g hmg
  have rv := vals_ints hints
  have lv : vs.length = ns.length := hints.length
  have hl : ns.length ≤ sizeLine := Nat.le_trans hlen hn2
  cases hk : K.lookup a with
  | some u =>
    have e := KX a u hk
    rw [hobj] at e
    cases e
    have sq : SqL K (fun _ => none) a (ns.map V.int) := .inr ⟨_, vs.toArray, _, hk, rfl, rfl, rfl, by simpa [lv] using hl, by simpa using rv⟩
    exact law_atG (fun _ => none) KX G.T.g G.T.b G.T.builtins G.T.nolimit hg hobj hr hF hb (fun _ => .inl rfl) (fun _ _ z => nomatch z) (fun _ z => (z rfl).elim) (fun z => (z rfl).elim) (hsp _ a ns hlen (fun _ => .inl rfl) sq) fun e s' => hCX _ s₁ e s'
  | none =>
    have hO : Only (upd (fun _ => none) a (.frz { cls := .type "list", data := .seq vs.toArray } (.lst (ns.map V.int)))) := fun b => by
      by_cases n : b = a
      · exact .inr ⟨_, _, by rw [n, upd_same]⟩
      · exact .inl (by rw [upd_ne n])
    have one : ∀ b, upd (fun _ => none) a (.frz { cls := .type "list", data := .seq vs.toArray } (.lst (ns.map V.int))) b ≠ none → b = a := fun b z => by
      by_cases n : b = a
      · exact n
      · rw [upd_ne n] at z
        exact (z rfl).elim
    refine law_atG _ KX G.T.g G.T.b G.T.builtins G.T.nolimit hg hobj hr hF hb hO (fun b u z => ?_) one (fun _ => hk) (hsp _ a ns hlen hO (.inl (.inr ⟨_, upd_same⟩))) fun e s' => hCX _ s₁ e s'
    have n := one b (by rw [z]; exact nofun)
    subst n
    rw [upd_same] at z
    cases z
    exact ⟨hobj, by rw [List.length_map]; exact hl, vs, _, rv, hobj⟩
end LL
set_option maxHeartbeats 4000000
/-! Errors as values: made, read, asked; several except clauses with names. -/
namespace LL
open PySem PySem.Spec PyProof.Rows L2
abbrev VE : List Value := PySem.HandSPX.veTail
/-- an error's class: its line of classes is itself, kind, ValueError's; or it is kind -/
structure ErrC (K : PySem.W.Frag) (kind C : Addr) : Prop where
  ob : ∃ nm q N bs bm sn sub ab col dd k0 k1 k2 k3 k5, K.lookup C = some (excClassObj nm q C N bs bm true sn sub ab col dd k0 k1 k2 k3 k5 "ValueError.__new__") ∧ (bm = .ref kind :: VE ∨ (C = kind ∧ bm = VE))
  sa : PySem.W.findIn K (.ref C) "__setattr__" = some (some (.builtin "object.__setattr__"))
  ga : PySem.W.findIn K (.ref C) "__getattribute__" = some (some (.builtin "BaseException.__getattribute__"))
  gg : PySem.W.findIn K (.ref C) "__getattr__" = some none
  ac : PySem.W.findIn K (.ref C) "__class__" = some (some (.builtin "object.__class__"))
  kp : PySem.W.keepIn K (.ref C) = true
section
variable {K : PySem.W.Frag} {kind C D : Addr}
theorem ErrC.cls (T : ErrC K kind C) : ∃ cd bm, PySem.W.clsIn K C = some cd ∧ cd.mro = .ref C :: bm ∧ cd.hasDict = true ∧ (bm = .ref kind :: VE ∨ (C = kind ∧ bm = VE)) := by
  obtain ⟨nm, q, N, bs, bm, sn, sub, ab, col, dd, k0, k1, k2, k3, k5, h, m⟩ := T.ob
  refine ⟨{ name := nm, bases := bs, mro := .ref C :: bm, ns := N, qualname := q, hasDict := true, slotNames := sn, subclasses := sub, abstract := ab, collection := col, hasDel := false }, bm, ?_, rfl, rfl, m⟩
  unfold PySem.W.clsIn
  rw [h]
theorem ErrC.ty (T : ErrC K kind C) : PySem.W.typeIn K (.ref C) = some (.type "type") := by
  obtain ⟨nm, q, N, bs, bm, sn, sub, ab, col, dd, k0, k1, k2, k3, k5, h, m⟩ := T.ob
  show (K.lookup C).map (·.cls) = _
  rw [h] <;> rfl
theorem ErrC.subT (T : ErrC K kind C) (t : String) : PySem.W.subIn K (.ref C) (.type t) = some (VE.contains (.type t)) := by
  obtain ⟨cd, bm, h1, h2, _, m⟩ := T.cls
  show PySem.W.mroIn K C (.type t) = _
  unfold PySem.W.mroIn
  rw [h1, Option.bind_some, h2]
  rw [if_neg (by simp)]
  rcases m with m | ⟨_, m⟩ <;> subst m <;> simp [List.contains_cons]
theorem ErrC.subR (T : ErrC K kind C) : PySem.W.subIn K (.ref C) (.ref D) = some (decide (D = C ∨ D = kind)) := by
  obtain ⟨cd, bm, h1, h2, _, m⟩ := T.cls
  show PySem.W.mroIn K C (.ref D) = _
  unfold PySem.W.mroIn
  rw [h1, Option.bind_some, h2]
  rw [if_neg (by simp)]
  have e : ∀ a b : Addr, (Value.ref a == Value.ref b) = decide (a = b) := fun a b => by
    by_cases h : a = b
    · subst h; simp
    · have h2 : ¬ (Value.ref a = Value.ref b) := fun q => h (Value.ref.inj q)
      rw [decide_eq_false h]
      exact beq_eq_false_iff_ne.mpr h2
  rcases m with m | ⟨z, m⟩ <;> subst m
  · simp only [List.contains_cons, e, VE, PySem.HandSPX.veTail]
    congr 1
    by_cases h1 : D = C <;> by_cases h2 : D = kind <;> simp [h1, h2]
  · subst z
    simp only [List.contains_cons, e, VE, PySem.HandSPX.veTail]
    congr 1
    by_cases h1 : D = C <;> simp [h1]
theorem ErrC.hasD (T : ErrC K kind C) : PySem.W.hasDictIn K C = true := by
  obtain ⟨cd, bm, h1, h2, h3, m⟩ := T.cls
  unfold PySem.W.hasDictIn
  rw [h1]
  exact h3
theorem ErrC.exB (T : ErrC K kind C) : PySem.W.subIn K (.ref C) (.type "BaseException") = some true := (T.subT _).trans (by decide +kernel)
theorem ErrC.kitR (T : ErrC K kind C) (U : ErrC K kind D) : PySem.W.kitCls K (.ref C) (.ref D) = some (decide (D = C ∨ D = kind)) := by
  obtain ⟨cd, bm, h1, _⟩ := U.cls
  show (if ((PySem.W.clsIn K D).isSome && PySem.W.typeIn K (.ref D) == some (.type "type")) = true then PySem.W.subIn K (.ref C) (.ref D) else none) = _
  rw [if_pos (by rw [h1, U.ty]; rfl)]
  exact T.subR
theorem ErrC.kit (T : ErrC K kind C) (U : ErrC K kind D) : PySem.W.kitOne K (.ref C) (.ref D) = some (decide (D = C ∨ D = kind)) := by
  unfold PySem.W.kitOne
  by_cases h : C = D
  · subst h
    rw [if_pos (by simp)]
    simp
  · rw [if_neg (by simpa using h)]
    exact T.kitR U
theorem ErrC.kitV (T : ErrC K kind C) : PySem.W.kitOne K (.ref C) (.type "ValueError") = some true := by
  unfold PySem.W.kitOne
  rw [if_neg (by simp)]
  show (if PySem.W.kitMeta "ValueError" = true then PySem.W.subIn K (.ref C) (.type "ValueError") else none) = _
  rw [if_pos (by decide +kernel), T.subT]
  decide +kernel
theorem ErrC.exm (T : ErrC K kind C) (U : ErrC K kind D) : PySem.W.exmOne K (.ref C) (.ref D) = some (decide (D = C ∨ D = kind)) := by
  unfold PySem.W.exmOne
  rw [if_pos (by rw [U.exB]; rfl)]
  exact T.kitR U
theorem ErrC.oex (T : ErrC K kind C) : OexC K C := by
  obtain ⟨nm, q, N, bs, bm, sn, sub, ab, col, dd, k0, k1, k2, k3, k5, h, m⟩ := T.ob
  refine ⟨⟨nm, q, N, bs, bm, sn, sub, ab, col, dd, k0, k1, k2, k3, k5, h, ?_⟩, T.sa, T.exB, T.ty, T.kp⟩
  rcases m with m | ⟨_, m⟩ <;> subst m
  · show PySem.HandSPX.refsVE VE = true
    decide +kernel
  · decide +kernel
theorem ErrC.xf (T : ErrC K kind C) : XfC K C := ⟨T.ga, T.gg, T.exB, T.hasD⟩
theorem spc_get {K : PySem.W.Frag} : PySem.W.specialIn K (.builtin "object.__class__") "__get__" = some (some (.builtin "getset_descriptor.__get__")) := by
  show (PySem.W.typeIn K (.builtin "object.__class__")).bind (fun t => PySem.W.findIn K t "__get__") = _
  have e : PySem.W.typeIn K (.builtin "object.__class__") = some (.type "getset_descriptor") := by
    show PySem.W.pureOf (fastBuiltinType "object.__class__") = _
    kernel_rfl
  rw [e, Option.bind_some]
  show fastLookup "getset_descriptor" "__get__" = _
  kernel_rfl
theorem spc_set {K : PySem.W.Frag} : PySem.W.takesIn K (.builtin "object.__class__") = some true := by
  have e : PySem.W.typeIn K (.builtin "object.__class__") = some (.type "getset_descriptor") := by
    show PySem.W.pureOf (fastBuiltinType "object.__class__") = _
    kernel_rfl
  have e2 : PySem.W.specialIn K (.builtin "object.__class__") "__set__" = some (some (.builtin "getset_descriptor.__set__")) := by
    show (PySem.W.typeIn K (.builtin "object.__class__")).bind (fun t => PySem.W.findIn K t "__set__") = _
    rw [e, Option.bind_some]
    show fastLookup "getset_descriptor" "__set__" = _
    kernel_rfl
  unfold PySem.W.takesIn
  rw [e2]
theorem ErrC.kitX (T : ErrC K kind C) {a : Addr} {ox : Obj} {od : Option Obj} : PySem.W.KitX K (.ref a) (.ref C) (fun h => PySem.W.InstAt h a ox C od) := by
  obtain ⟨cd, bm, h1, h2, _, m⟩ := T.cls
  exact PySem.W.kitx_exc (by rw [h1]; rfl) T.ga T.gg T.exB T.ac spc_get spc_set ((T.subT "object").trans (by decide +kernel))
end
/-! ### an error that stands -/
/-- at a: an error of the class at D with these fields -/
def ErrAt (H : Hp) (a D : Addr) (fs : List (Str × V)) : Prop := (fs = [] ∧ H a = some (exo a D none)) ∨ ∃ d, H a = some (exo a D (some d)) ∧ H d = some (exd d fs)
theorem ErrAt.mono {H H' : Hp} {a D : Addr} {fs : List (Str × V)} (e : Evl.Ex H H') : ErrAt H a D fs → ErrAt H' a D fs
  | .inl ⟨h1, h2⟩ => .inl ⟨h1, e _ _ h2⟩
  | .inr ⟨d, h1, h2⟩ => .inr ⟨d, e _ _ h1, e _ _ h2⟩
section
variable {X : Cx} {pins : List (Addr × Obj)} {σ : L2.St} {H : Hp} {s : Shared} {a D kind : Addr} {fs : List (Str × V)}
theorem ErrAt.inst (h : ErrAt H a D fs) (I : Inv X pins σ H s) : ∃ ox od, PySem.W.InstAt s.heap a ox D od ∧ ∀ f v, fs.lookup f = some v → ∃ o u, od = some o ∧ PySem.W.lookIn f o = some (some u) ∧ RelV v u := by
  rcases h with ⟨h1, h2⟩ | ⟨d, h1, h2⟩
  · obtain ⟨t, e⟩ := exo_at I.hok h2
    exact ⟨_, none, ⟨e, rfl, rfl, True.intro⟩, fun f v q => by subst h1; cases q⟩
  · obtain ⟨t, e⟩ := exo_at I.hok h1
    obtain ⟨mA, hns, rel⟩ := exd_at I.hok h2
    obtain ⟨od, ho, hl⟩ := lookIn_ns hns
    refine ⟨_, some od, ⟨e, rfl, rfl, ho⟩, fun f v q => ?_⟩
    obtain ⟨u, hu, ru⟩ := RelO.some_of (v := v) (o := mA f) (by rw [← q]; exact rel f)
    exact ⟨od, u, rfl, by rw [hl, hu], ru⟩
/-- isinstance(e, C) of such an error -/
def rIsX (K : PySem.W.Frag) : List V → Hp → VK → Prop := fun xs H Q => ∃ (a D kind : Addr) (fs : List (Str × V)) (c : V) (cv : Value) (b : Bool), xs = [.ref a, c] ∧ ErrAt H a D fs ∧ ErrC K kind D ∧ ClsV c cv ∧ PySem.W.kitOne K (.ref D) cv = some b ∧ Q (.bl b) H
theorem call_isX : CallR X (.builtin "isinstance") (rIsX X.K) := by
  intro pins s σ H xs us Q I r h
  obtain ⟨a, D, kind, fs, c, cv, b, rfl, ha, T, kc, e, q⟩ := h
  obtain ⟨u1, u2, rfl, r1, r2⟩ := vals2 r
  have e2 := kc.eq r2
  subst e2
  cases (show u1 = Value.ref a from r1)
  obtain ⟨ox, od, J, _⟩ := ha.inst I
  exact PySem.W.kia_one (T.kitX (a := a) (ox := ox) (od := od)) I.kIn J e (fun z => nomatch z) fun tk => ⟨.bl b, H, I.tok tk, rfl, q⟩
/-- e.f of such an error -/
def tFx (K : PySem.W.Frag) (f : Str) (te : TE) : TE := fun σ H Q => te σ H fun x H1 => ∃ (a D kind : Addr) (fs : List (Str × V)) (v : V), x = .ref a ∧ ErrAt H1 a D fs ∧ ErrC K kind D ∧ PySem.W.findIn K (.ref D) f = some none ∧ fs.lookup f = some v ∧ Q v H1
theorem pe_fx {e : Expr} {te : TE} {pos : Pos} {n : Str} (he : PE X e te) (hb : attributeBase e n X.env (eval e X.env) = eval e X.env := by rfl) : PE X (.Attribute e n pos) (tFx X.K n te) := by
  constructor
  intro pins s σ H Q I h
  refine attr_of hb (thn (he.run pins s σ H _ I h) ?_)
  rintro u s1 ⟨x, H1, I1, rx, a, D, kind, fs, v, rfl, ha, T, hno, hl, q⟩
  cases (show u = Value.ref a from rx)
  obtain ⟨ox, od, J, look⟩ := ha.inst I1
  obtain ⟨o, w, rfl, hw, rw'⟩ := look n v hl
  exact PySem.HandSPX.exc_get I1.kIn J T.ga T.gg T.exB (PySem.W.findObj_own T.hasD hno rfl hw) (handed_of rw') ⟨v, H1, I1.tok _, rw', q⟩
end
/-! ### an error that is made -/
/-- C(e, ..), its own __init__ keeping sp -/
def tOex (C : Addr) (sp : Sp) (ta : TA) : TE := fun σ H Q => ta σ H fun vs H1 => ∀ a, H1 a = none → sp (.ref a :: vs) (upd H1 a (exo a C none)) (fun v H2 => v = .non ∧ Q (.ref a) H2) fun _ _ _ => False
section
variable {X : Cx} {CX : CXT} {x : Str} {C fI kind : Addr} {k : Nat} {fd : FuncData} {ps : List Str} {sp : Sp} {p pos : Pos} {e : Expr} {es : List Expr} {ta : TA}
theorem oex_run (T : ErrC X.K kind C) (iC : PySem.W.findIn X.K (.ref C) "__init__" = some (some (.ref fI))) (tI : PySem.W.typeIn X.K (.ref fI) = some (.type "function")) (F1 : FnOk X.prog X.w X.K X.mg X.base CX k fI fd ps sp) (hr : Room (k + 1) X.A)
    (hb : Binds X.K fd ps []) (hx : Passes CX X fun _ _ _ => False) (hps : ps.length ≤ 1000) {pins : List (Addr × Obj)} {σ : L2.St} {H1 : Hp} {s : Shared} {Q : VK} {us : List Value} {vs : List V} (I1 : Inv X pins σ H1 s) (r : Vals vs us)
    (h : ∀ a, H1 a = none → sp (.ref a :: vs) (upd H1 a (exo a C none)) (fun v H2 => v = .non ∧ Q (.ref a) H2) fun _ _ _ => False) : wpAny (model X.prog X.w) X.A (call (.ref C) us) (EP X pins σ Q) X.xe s := by
  obtain ⟨nm, q, N, bs, bm, sn, sub, ab, col, dd, k0, k1, k2, k3, k5, hC, hbm⟩ := T.oex.cls
  obtain ⟨hp, g, dr, tk, os⟩ := s
  have hn : H1 (hp.objs.size + 1) = none := I1.hok.fresh (Nat.le_succ _)
  have hq := h _ hn
  have l1 := F1.len _ _ _ _ hq
  have l2 : vs.length + 1 = ps.length := l1
  have lu : us.length = vs.length := r.length.symm
  have old : ∀ b o, hp.get? b = some o → ((hp.push (PySem.W.kdv_tup us)).push (PySem.HandSPX.excO C hp.objs.size)).get? b = some o := fun b o e => Heap.get?_push_of_some _ (Heap.get?_push_of_some _ e)
  have new : ((hp.push (PySem.W.kdv_tup us)).push (PySem.HandSPX.excO C hp.objs.size)).get? (hp.objs.size + 1) = some (PySem.HandSPX.excO C hp.objs.size) := by heap_get
  have I2 : Inv X pins σ (upd H1 (hp.objs.size + 1) (exo (hp.objs.size + 1) C none)) ⟨(hp.push (PySem.W.kdv_tup us)).push (PySem.HandSPX.excO C hp.objs.size), g, dr, tk, os⟩ :=
    I1.laid (t' := tk) (h' := (hp.push (PySem.W.kdv_tup us)).push (PySem.HandSPX.excO C hp.objs.size)) old (Nat.le_succ _) (exo_ok new)
  have b1 := hb ⟨(hp.push (PySem.W.kdv_tup us)).push (PySem.HandSPX.excO C hp.objs.size), g, dr, tk, os⟩ (Value.ref (hp.objs.size + 1) :: us) I2.kIn (by rw [List.append_nil, List.length_cons]; omega)
  rw [List.append_nil] at b1
  have sz : us.length ≤ sizeLine := by rw [sizeLine_eq]; omega
  refine wpAny_call (PySem.HandSPX.call_own PySem.F.excBase_ValueError (fun Y => PySem.HandSPX.refsVE_contains Y bm hbm) (I1.kIn _ _ hC) (PySem.W.looks_findIn I1.kIn iC) (fun self => PySem.W.bind_fn I1.kIn self tI) sz ?_)
  refine codeAny_mono (F1.run _ X.stack _ _ ⟨Value.ref (hp.objs.size + 1) :: us, []⟩ (Value.ref (hp.objs.size + 1) :: us) (V.ref (hp.objs.size + 1) :: vs) _ _ (hr.make C us []) (I2.env0.make C us []) b1 (.cons rfl r) hq) ?_
  intro res s2 z
  match res, z with
  | .error er, z => exact (hx pins σ _ _ er s2 I2 z)
  | .ok (.ret u), z =>
    obtain ⟨v, H2, J, rv, ev, q2⟩ := I2.after z
    subst ev
    exact ⟨rv, .ref (hp.objs.size + 1), H2, J, rfl, q2⟩
theorem pe_oex (T : ErrC X.K kind C) (iC : PySem.W.findIn X.K (.ref C) "__init__" = some (some (.ref fI))) (tI : PySem.W.typeIn X.K (.ref fI) = some (.type "function")) (F1 : FnOk X.prog X.w X.K X.mg X.base CX k fI fd ps sp) (hr : Room (k + 1) X.A)
    (hb : Binds X.K fd ps []) (hx : Passes CX X fun _ _ _ => False) (hps : ps.length ≤ 1000) (hg : Gl X x) (hm : X.mg x = some (.ref C)) (ha : PA X (e :: es) ta) (hdb : (x == ("__debug__" : Str)) = false := by decide)
    (he : starEach (e :: es) X.env = (false, eval e X.env) :: starEach es X.env := by rfl) (hpl : (backTo pos (starEach es X.env)).any (·.1) = false := by rfl) : PE X (.Call (.Name x p) (e :: es) [] pos) (tOex C sp ta) := by
  constructor
  intro pins s σ H Q I h
  refine wpAny_Call_Name_kw (ld_glob I hg hm ?_ hdb)
  refine PySem.W.callWith_K (h₀ := X.base) I.ok.mod.kin T.kp (thn (ha.run pos pins s σ H _ I h) ?_) he hpl
  rintro us s1 ⟨vs, H1, I1, r, q⟩
  exact ⟨I1.kIn, oex_run T iC tI F1 hr hb hx hps I1 r q⟩
theorem pe_oex0 (T : ErrC X.K kind C) (iC : PySem.W.findIn X.K (.ref C) "__init__" = some (some (.ref fI))) (tI : PySem.W.typeIn X.K (.ref fI) = some (.type "function")) (F1 : FnOk X.prog X.w X.K X.mg X.base CX k fI fd ps sp) (hr : Room (k + 1) X.A)
    (hb : Binds X.K fd ps []) (hx : Passes CX X fun _ _ _ => False) (hps : ps.length ≤ 1000) (hg : Gl X x) (hm : X.mg x = some (.ref C)) (hdb : (x == ("__debug__" : Str)) = false := by decide) : PE X (.Call (.Name x p) [] [] pos) (tOex C sp tNil) := by
  constructor
  intro pins s σ H Q I h
  refine wpAny_Call_Name_kw (ld_glob I hg hm ?_ hdb)
  exact PySem.W.callWith_K0 I.kIn T.kp (oex_run (us := []) (vs := []) T iC tI F1 hr hb hx hps I .nil h)
/-- C() of a class without own __init__ -/
def tOwn0 (C : Addr) : TE := fun _ H Q => ∀ a, H a = none → Q (.ref a) (upd H a (exo a C none))
theorem pe_own0 (T : ErrC X.K kind C) (q : PySem.W.excIn X.K C He.veBase "ValueError.__new__" = true) (hg : Gl X x) (hm : X.mg x = some (.ref C)) (hdb : (x == ("__debug__" : Str)) = false := by decide) : PE X (.Call (.Name x p) [] [] pos) (tOwn0 C) := by
  constructor
  intro pins s σ H Q I h
  refine wpAny_Call_Name_kw (ld_glob I hg hm ?_ hdb)
  refine PySem.W.callWith_K0 I.kIn T.kp ?_
  obtain ⟨bm, N, nm, qn, bs, hdct, sn, sub, ab, col, dd, k0, k1, k2, k3, k5, mN, hC, hN, hni, OT⟩ := exc_obj I.kIn q
  obtain ⟨hp, g, dr, tk, os⟩ := s
  refine wpAny_call_exc_subT PySem.F.excBase_ValueError OT hC hN hni (fun h' a hm => ?_) (by show 0 ≤ sizeLine; omega)
  have na : H a = none := I.hok.gone hm.new
  obtain ⟨t, ht, _⟩ := hm.there
  exact ⟨.ref a, upd H a (exo a C none), I.laidN (t' := tk) hm.keeps hm.new na (exo_ok ht), rfl, h a na⟩
end
end LL
set_option maxHeartbeats 4000000
/-! try: body / except C as n: .. / except D as m: .. -/
namespace LL
open PySem PySem.Spec PyProof.Rows L2
/-- one clause: its class, its name's slot, its suite -/
structure Cl where
  c : Value
  i : Nat
  ts : Addr → Value → Option Addr → TS
/-- behind a suite the name is gone -/
def gone (D : Ends) (i : Nat) : Ends := { nx := fun σ H => D.nx (σ.set i none) H, rt := D.rt, bk := fun σ H => D.bk (σ.set i none) H, ct := fun σ H => D.ct (σ.set i none) H }
def wCls (K : PySem.W.Frag) (W : WX) (D : Ends) : List Cl → WX
  | [] => W
  | q :: l => fun cls d σ H => ∃ b, PySem.W.exmOne K cls q.c = some b ∧ (b = true → ∀ a, H a = none → q.ts a cls d (gone D q.i) (σ.set q.i (some (.ref a))) H) ∧ (b = false → wCls K W D l cls d σ H)
/-- the clauses as the text has them -/
inductive Cls (X : Cx) : List ExceptHandler → List Cl → Prop
  | nil : Cls X [] []
  | cons {x n : Str} {q : Cl} {b : Stmt} {suite : List Stmt} {np pos : Pos} {hs : List ExceptHandler} {l : List Cl} (nm : Names X x q.c) (at_ : X.N[q.i]? = some n) (lo : X.env.kindOf n = some .local)
      (run : ∀ (a : Addr) (oe : Obj) (cls : Value) (d : Option Addr) (pn : List (Addr × Obj)), Zc cls d oe → (∃ vs, oe.data = .fields vs) → PSs (X.suite a ((a, oe) :: pn)) (b :: suite) (q.ts a cls d)) (r : Cls X hs l) :
      Cls X (.ExceptHandler (some (.Name x np)) (some n) (b :: suite) pos :: hs) (q :: l)
section
variable {X : Cx} {hs : List ExceptHandler} {l : List Cl} {W : WX}
/-- what is known where a clause is looked at: the error at a, flying over the ground B, the state I without it -/
structure Air (X : Cx) (pins : List (Addr × Obj)) (σ : L2.St) (H : Hp) (a : Addr) (B : Heap) (cls : Value) (d : Option Addr) (sI s : Shared) : Prop where
  I : Inv X pins σ H sI
  nb : ∀ b o, sI.heap.get? b = some o → b ∉ frs X.stack → B.get? b = some o
  up : sI.heap.UpToSlots s.heap
  fl : PySem.HandSPX.FlyingZ B X.stack a (Zc cls d) s.heap
  na : H a = none
  os : s.os = sI.os
  ag : AllBare s.gens
theorem Air.inv {pins : List (Addr × Obj)} {σ : L2.St} {H : Hp} {a : Addr} {B : Heap} {cls : Value} {d : Option Addr} {sI s : Shared} (y : Air X pins σ H a B cls d sI s) : Inv X pins σ H s := y.I.landed y.nb y.fl.1 y.up y.os y.ag
/-- the error's object, out of all frames -/
theorem Air.obj {pins : List (Addr × Obj)} {σ : L2.St} {H : Hp} {a : Addr} {B : Heap} {cls : Value} {d : Option Addr} {sI s : Shared} (y : Air X pins σ H a B cls d sI s) (hst : X.stack = X.env :: X.outer) (hf : X.env.frame = some X.env.locals) :
    ∃ oe vs, s.heap.get? a = some oe ∧ Zc cls d oe ∧ oe.data = .fields vs ∧ a ≠ X.env.locals ∧ a ∉ X.fs := by
  obtain ⟨oe, vs, e, z, dt⟩ := y.fl.there
  have out : a ∉ frs X.stack := fun hm => by
    obtain ⟨_, o2, e2, no⟩ := y.fl.2.2.1.mem hm
    rw [e] at e2
    cases e2
    exact no _ dt
  rw [hst] at out
  refine ⟨oe, vs, e, z, dt, fun q => out ?_, fun q => out ?_⟩
  · exact List.mem_filterMap.mpr ⟨X.env, List.mem_cons_self, by rw [hf, q]⟩
  · obtain ⟨v, h1, h2⟩ := List.mem_filterMap.mp q
    exact List.mem_filterMap.mpr ⟨v, List.mem_cons_of_mem _ h1, h2⟩
theorem handled {pos : Pos} (hst : X.stack = X.env :: X.outer) (hf : X.env.frame = some X.env.locals) (hN : X.N.Nodup) (tk : Takes X W) (D : Ends) {pins : List (Addr × Obj)} {a : Addr} {B : Heap} {cls : Value} {d : Option Addr} {σ : L2.St} {H : Hp} {sI : Shared}
    (hk : Cls X hs l) : ∀ {s : Shared}, Air X pins σ H a B cls d sI s → wCls X.K W D l cls d σ H → wpAny (model X.prog X.w) X.A (handleBy (.ref a) X.env hs) (SP X pins D) X.xe s := by
  induction hk with
  | nil =>
    intro s y w
    have w : W cls d σ H := w
    obtain ⟨hp, g, dr, t, os⟩ := s
    refine wpAny_handleBy_nil ?_
    unfold PySem.passOn
    obtain ⟨_, _, _, oe, vs, T, oT, ts, e, _, dt, h1, _⟩ := id y.fl
    refine wpAny_bind (wpAny_field e dt h1 ?_)
    rw [if_neg (show ¬ ((Value.ref T == Value.none) = true) from by simp)]
    have last : wpAny (model X.prog X.w) X.A (setFlight (.ref a) X.env.frame) (fun _ s2 => wpAny (model X.prog X.w) X.A (throw (.ref a) : Sem Flow) (SP X pins D) X.xe s2) X.xe ⟨hp, g, dr, t, os⟩ := by
      rw [hf]
      refine PySem.HandSPX.setFlight_upZ (L := X.env.locals) y.fl fun h2 hh up2 => wpAny_throw (tk _ _ ⟨a, B, sI, pins, σ, H, cls, d, rfl, y.I, y.nb, y.up.trans up2, .inr (.inr hh), y.na, y.os, y.ag, w⟩)
    first
      | exact wpAny_bind (wpAny_pure (wpAny_bind last))
      | exact wpAny_bind last
  | @cons x n q b suite np hpos hs2 l2 nm at_ lo run r ih =>
    intro s y w
    obtain ⟨ok, h1, yes, no⟩ := w
    have J := y.inv
    obtain ⟨oe, vs, e, z, dt, nL, nF⟩ := y.obj hst hf
    have S := J.suite e dt y.na nL nF
    obtain ⟨hp, g, dr, t, os⟩ := s
    have tyo : PySem.W.Looks (model X.prog X.w) hp (typeOf (.ref a)) cls := fun A Q E s k p => wpAny_typeOf_ref (k _ _ e) (by rw [z.1]; exact p)
    have look := PySem.W.exm_one (M := model X.prog X.w) J.kIn tyo h1
    refine wpAny_handleBy_cons (codeAny_handlers_test ?_) (by intro q; cases q)
    have named : ∀ {Q : Value → Shared → Prop} {E : Value → Shared → Prop}, Q q.c ⟨hp, g, dr, t, os⟩ → wpAny (model X.prog X.w) (X.A.mark (some (.ref a))) (eval (.Name x np) X.env) Q E ⟨hp, g, dr, t, os⟩ := by
      intro Q E k
      obtain ⟨hg, nd, m⟩ := nm
      rcases m with m | ⟨m, v, nn⟩
      · exact ld_glob (X := X.suite a ((a, oe) :: (X.pn ++ pins))) S hg m k nd
      · exact ld_blt (X := X.suite a ((a, oe) :: (X.pn ++ pins))) S hg m v k nn nd
    refine named (look.here ?_)
    cases ok with
    | false => exact ih y (no rfl)
    | true =>
      refine codeAny_handlers_suite_as (PySem.HandSPX.lands_againZ y.fl fun h2 fl2 up2 => ?_)
      have y2 : Air X pins σ H a B cls d sI ⟨h2, g, dr, t, os⟩ := ⟨y.I, y.nb, y.up.trans up2, fl2, y.na, y.os, y.ag⟩
      obtain ⟨oe2, vs2, e2, z2, dt2, nL2, nF2⟩ := y2.obj hst hf
      have S2 := y2.inv.suite e2 dt2 y.na nL2 nF2
      refine store_ok (X := X.suite a ((a, oe2) :: (X.pn ++ pins))) (v := .ref a) S2 hN at_ (.inl lo) rfl (fun s3 S3 => ?_) (.inr lo)
      refine wpAny_mono ((run a oe2 cls d (X.pn ++ pins) z2 ⟨_, dt2⟩).run [] s3 _ H _ S3 (yes rfl a y.na)) ?_ fun _ _ f => False.elim f
      intro fl s4 k
      have out : ∀ {σ4 : L2.St} {H4 : Hp} {R : Shared → Prop}, Inv (X.suite a ((a, oe2) :: (X.pn ++ pins))) [] σ4 H4 s4 → (∀ s5, Inv X pins (σ4.set q.i none) H4 s5 → R s5) →
          wpAny (model X.prog X.w) X.A (do bindName X.env n .none; unbindBehindTheSuite X.env n hpos) (fun _ s5 => R s5) X.xe s4 := fun S4 k4 => gone_ok (S4.unsuite y.I.ok) hN at_ lo k4
      match fl, k with
      | .next, ⟨σ4, H4, S4, k4⟩ => exact out S4 fun s5 J5 => ⟨_, _, J5, k4⟩
      | .brk, ⟨σ4, H4, S4, k4⟩ => exact out S4 fun s5 J5 => ⟨_, _, J5, k4⟩
      | .cont, ⟨σ4, H4, S4, k4⟩ => exact out S4 fun s5 J5 => ⟨_, _, J5, k4⟩
      | .ret u, ⟨v, σ4, H4, S4, r4, k4⟩ => exact out S4 fun s5 J5 => ⟨_, _, _, J5, r4, k4⟩
theorem ps_tryC {body : List Stmt} {h₀ : ExceptHandler} {pos : Pos} {tb : WX → TS} (hst : X.stack = X.env :: X.outer) (hf : X.env.frame = some X.env.locals) (hN : X.N.Nodup) (tk : Takes X W)
    (hb : ∀ (W : WX) (pn : List (Addr × Obj)) (xe : Value → Shared → Prop), Takes (X.tr pn xe) W → PassesOwn (model X.prog X.w) X.A X.env xe → PSs (X.tr pn xe) body (tb W)) (hk : Cls X (h₀ :: hs) l) :
    PS X (.Try body (h₀ :: hs) [] [] pos) (fun D σ H => tb (wCls X.K W D l) D σ H) := by
  constructor
  intro pins s σ H D I h
  have ok := I.ok
  have fr : X.A.frames = some (X.env :: X.outer) := by rw [ok.frames, hst]
  refine wpAny_Try_except (wpAny_mono ((hb (wCls X.K W D l) (X.pn ++ pins) (fun e s₁ => wpAny (model X.prog X.w) X.A (noteFrame e X.env) (fun _ s₂ => wpAny (model X.prog X.w) X.A (setFlight e none) (fun _ s₃ =>
    wpAny (model X.prog X.w) X.A (handleBy e X.env (h₀ :: hs)) (SP X pins D) X.xe s₃) X.xe s₂) X.xe s₁) ?_ PassesOwn.looking).run [] s σ H D (I.toTry _) h) ?_ fun _ _ z => z)
  · rintro u s' ⟨a, B, sI, pins', σ', H', cls, d, rfl, J', nb, up, sky, na, os, ag, w⟩
    have J : Inv X pins σ' H' sI := J'.ofTry ok
    have sk : Sky B (X.env :: X.outer) a (Zc cls d) X.env.locals s'.heap := by rw [← hst]; exact sky
    refine Sky.land Zc.steady fr hf sk fun h2 fl2 up2 => ?_
    rw [← hst] at fl2
    exact handled (pos := pos) hst hf hN tk D hk ⟨J, nb, up.trans up2, fl2, na, os, ag⟩ w
  · intro fl s1 k
    match fl, k with
    | .next, ⟨σ', H', J, q⟩ => exact wpAny_execs_nil ⟨σ', H', J.ofTry ok, q⟩
    | .brk, ⟨σ', H', J, q⟩ => exact ⟨σ', H', J.ofTry ok, q⟩
    | .cont, ⟨σ', H', J, q⟩ => exact ⟨σ', H', J.ofTry ok, q⟩
    | .ret u, ⟨v, σ', H', J, r, q⟩ => exact ⟨v, σ', H', J.ofTry ok, r, q⟩
end
/-- pe_xf with the caught error named by where it is pinned -/
theorem pe_xfP {X : Cx} {a C : Addr} {oe : Obj} {cls : Value} {d : Option Addr} {e : Expr} {te : TE} {pos : Pos} {n : Str} (hp : (a, oe) ∈ X.pn) (T : XfC X.K C) (hno : PySem.W.findIn X.K (.ref C) n = some none)
    (hz : Zc cls d oe) (hf : ∃ vs, oe.data = .fields vs) (he : PE X e te) (hb : attributeBase e n X.env (eval e X.env) = eval e X.env := by rfl) :
    PE X (.Attribute e n pos) (tXf a cls d C n te) := by
  refine ⟨fun pins s σ H Q I h => ?_⟩
  refine attr_of hb (thn (he.run pins s σ H _ I h) fun u s1 hh => ?_)
  obtain ⟨x, H1, I1, rx, ex, ec, dd, fs, v, ed, ea, l, q⟩ := hh
  subst ex
  obtain rfl : u = Value.ref a := rx
  subst ec
  subst ed
  obtain ⟨ha, _⟩ := I1.pin (a, oe) (List.mem_append_left _ hp)
  obtain ⟨vs, hd⟩ := hf
  have hx : ObjOk X.prog X.w H1 s1.heap dd (.xd fs) := I1.hok dd _ ea
  obtain ⟨mA, hns, hr⟩ := hx
  obtain ⟨od, ho, hl⟩ := lookIn_ns hns
  obtain ⟨u, hu, ru⟩ := RelO.some_of (v := v) (o := mA n) (by rw [← l]; exact hr n)
  have J : PySem.W.InstAt s1.heap a oe C (some od) := ⟨ha, hz.1, by unfold PySem.W.notCls; rw [hd] <;> rfl, by rw [hz.2]; exact ho⟩
  exact HandSPX.exc_get I1.kIn J T.ga T.gg T.exC (PySem.W.findObj_own T.hdC hno rfl (by rw [hl, hu])) (handed_of ru) ⟨v, H1, I1.tok _, ru, q⟩
end LL
set_option maxHeartbeats 4000000
/-! {k: v} where k is a tuple of ints and texts. -/
namespace LL
open PySem PySem.Spec PyProof.Rows L2
def tDisp1 (tk tv : TE) : TE := fun σ H Q => ∀ p, H p = none → tk σ (upd H p (.dT [])) fun x H1 => tv σ H1 fun y H2 => ∃ (b : Addr) (ks : List Key), x = .ref b ∧ H2 b = some (.tup (ks.map kV)) ∧ H2 p = some (.dT []) ∧ Q (.ref p) (upd H2 p (.dT [(ks, y)]))
theorem pe_disp1 {X : Cx} {k v : Expr} {pos : Pos} {tk tv : TE} (hu : X.A.units + 1 < cLine) (hk : PE X k tk) (hv : PE X v tv) : PE X (.Dict [some k] [v] pos) (tDisp1 tk tv) := by
  constructor
  intro pins s σ H Q I q
  have hn := I.hok.fresh (Nat.le_refl s.heap.objs.size)
  have I1 := I.laid (a := s.heap.objs.size) (o := .dT []) (h' := s.heap.push { cls := .type "dict", data := .dict #[] }) (t' := s.toks) (fun _ _ z => Heap.get?_push_of_some _ z) (Nat.le_refl _) (dt_empty s.heap I.big)
  rw [arm_eval_Dict, zip_pairTrees [some k] [v] X.env pos rfl rfl, dictDisplay_pairs _ (by simp [pairTrees]) (by simp [pairTrees])]
  refine wpAny_bind (wpAny_standAt (wpAny_bind ?_))
  unfold subDict
  refine wpAny_bind (wpAny_alloc (wpAny_bind (wpAny_holding ?_)))
  rw [if_pos (show (pairTrees [some k] [v] X.env pos).length ≤ 15 by simp [pairTrees])]
  refine wpAny_bind (pairTrees_cons_walk (thn (hk.run pins _ σ _ _ I1 (q _ hn)) ?_))
  rintro ku s1 ⟨x, H1, I2, rk, q1⟩
  refine thn (hv.run pins s1 σ H1 _ I2 q1) ?_
  rintro vu s2 ⟨y, H2, I3, rv, b, ks, rfl, hb, hp, q2⟩
  refine pairTrees_nil_walk (wpAny_holding ?_)
  cases (show ku = Value.ref b from rk)
  rw [List.forIn_cons]
  obtain ⟨z, hd, xs, kt, dd⟩ := dt_of I3.hok hp
  cases kt
  refine wpAny_bind (wpAny_bind (wpAny_bind (wpAny_dictSet_heap (hsz := Nat.zero_le _) (show X.A.units < cLine by omega) (key_of I3.hok hb) dd fun h' dd' hs => wpAny_pure ?_)))
  dsimp only
  rw [List.forIn_nil]
  refine wpAny_pure (wpAny_pure (wpAny_pure (wpAny_pure ⟨.ref s.heap.objs.size, upd H2 s.heap.objs.size (.dT [(ks, y)]), ?_, rfl, q2⟩)))
  obtain ⟨o, es, ep, e1, e2, e3, e4, e5, e6⟩ := dd'
  refine d_write I3 (by rw [hp]; exact True.intro) hs ⟨o, e1⟩ ⟨by simp [sizeLine_eq], hd, _, .cons (b := (ks, b, vu)) ⟨rfl, ?_, rv⟩ .nil, o, es, ep, e1, e2, e3, e4, e6⟩
  show upd H2 s.heap.objs.size (.dT [(ks, y)]) b = _
  rw [upd_ne (ne_of hb hp (fun z => nomatch z))]
  exact hb
end LL
set_option maxHeartbeats 4000000
/-! Defs by their names: a def that the top left, with its promise. -/
namespace LL
open PySem PySem.Spec PyProof.Rows L2
/-- the module's name x is a def that keeps sp -/
def Has (P : Program) (w : World) (K : PySem.W.Frag) (mg : Str → Option Value) (base : Heap) (CX : CXT) (x : Str) (k : Nat) (ps : List Str) (sp : Sp) : Prop :=
  ∃ f fd, mg x = some (.ref f) ∧ PySem.W.keepIn K (.ref f) = true ∧ Binds K fd ps [] ∧ FnOk P w K mg base CX k f fd ps sp
abbrev HasX (X : Cx) (CX : CXT) (x : Str) (k : Nat) (ps : List Str) (sp : Sp) : Prop := Has X.prog X.w X.K X.mg X.base CX x k ps sp
section
variable {X : Cx} {CX : CXT} {x : Str} {j k : Nat} {ps : List Str} {sp : Sp} {E : XK} {W : WX} {p pos : Pos} {e : Expr} {es : List Expr} {ta : TA}
theorem pe_callH (h : HasX X CX x k ps sp) (hr : Room j X.A) (hx : Passes CX X E) (ha : PA X (e :: es) ta) (hj : k ≤ j := by decide) (hg : Gl X x := by rfl) (hdb : (x == ("__debug__" : Str)) = false := by decide)
    (he : starEach (e :: es) X.env = (false, eval e X.env) :: starEach es X.env := by rfl) (hpl : (backTo pos (starEach es X.env)).any (·.1) = false := by rfl) : PE X (.Call (.Name x p) (e :: es) [] pos) (tCall sp [] E ta) := by
  obtain ⟨f, fd, hm, hk, hb, F⟩ := h
  exact pe_call F (hr.mono hj) hg hm hk hb .nil hx ha hdb he hpl
theorem pe_callH0 (h : HasX X CX x k ps sp) (hr : Room j X.A) (hx : Passes CX X E) (hj : k ≤ j := by decide) (hg : Gl X x := by rfl) (hdb : (x == ("__debug__" : Str)) = false := by decide) : PE X (.Call (.Name x p) [] [] pos) (tCall sp [] E tNil) := by
  obtain ⟨f, fd, hm, hk, hb, F⟩ := h
  exact pe_call0 F (hr.mono hj) hg hm hk hb .nil hx hdb
/-- in a try's body, what it lets out being wished for -/
theorem pe_callHS {C : Cx} (h : HasX C (L2.CX C.prog C.w) x k ps sp) (hr : Room j C.A) (tk : Takes C W) (ha : PA C (e :: es) ta) (hj : k ≤ j := by decide) (hg : Gl C x := by rfl) (hdb : (x == ("__debug__" : Str)) = false := by decide)
    (he : starEach (e :: es) C.env = (false, eval e C.env) :: starEach es C.env := by rfl) (hpl : (backTo pos (starEach es C.env)).any (·.1) = false := by rfl) : PE C (.Call (.Name x p) (e :: es) [] pos) (tCallS sp (WE W) ta) := by
  obtain ⟨f, fd, hm, hk, hb, F⟩ := h
  exact pe_callS F (hr.mono hj) hg hm hk hb (fun σ => passAt tk σ) ha hdb he hpl
end
theorem pe_ref {X : Cx} {x : Str} {C : Addr} {pos : Pos} (hm : X.mg x = some (.ref C)) (hg : Gl X x := by rfl) (hd : (x == ("__debug__" : Str)) = false := by decide) : PE X (.Name x pos) (tC (.ref C)) := pe_glob (v := .ref C) hg hm rfl hd
/-- a def of the text: its facts (a def of the top, under its own name) -/
abbrev FnT (K : PySem.W.Frag) (x : Str) (st : Stmt) (f : Addr) (fd : FuncData) : Prop := FunD K x x (defArgs st) (defBody st) (defScope st) [] [] f fd
end LL
set_option maxHeartbeats 4000000
/-! Open things over the heap: what stands at a value, its parts in the text's order, filling. -/
namespace LL
open PySem PySem.Spec PyProof.Rows L2 Evl
theorem M2.ok {X : Cx} {o : Expr} {m : Str} {apos : Pos} {e f : Expr} {cpos : Pos} (h1 : attributeBase o m X.env (eval o X.env) = eval o X.env := by rfl)
    (h2 : ((backTo cpos (starEach [e, f] X.env)).all (fun x => !x.1) && (backToKw cpos (keywordEach [] X.env)).all (fun x => x.1.isSome) && decide (([e, f] : List Expr).length + ([] : List Keyword).length + (if ([] : List Keyword).isEmpty then 0 else 1) < 30)) = true := by rfl)
    (h3 : (apos.endLine == cpos.line) = true := by rfl) (h4 : backTo cpos (starEach [e, f] X.env) = [(false, eval e X.env), (false, eval f X.env)] := by rfl) : M2 X o m apos e f cpos := ⟨h1, h2, h3, h4⟩
/-- a thing: a number, a word, a head with things -/
inductive Thg where
  | num (i : Int)
  | word (s : Str)
  | node (h : Str) (xs : List Thg)
mutual
inductive Tv (H : Hp) : V → Thg → Prop
  | num (i : Int) : Tv H (.int i) (.num i)
  | word (s : Str) : Tv H (.str s) (.word s)
  | node {a : Addr} {h : Str} {vs : List V} {ts : List Thg} (e : H a = some (.tup (.str h :: vs))) (hs : Tvs H vs ts) (nb : h ≠ "!" := by decide) : Tv H (.ref a) (.node h ts)
inductive Tvs (H : Hp) : List V → List Thg → Prop
  | nil : Tvs H [] []
  | cons {v : V} {vs : List V} {t : Thg} {ts : List Thg} (h : Tv H v t) (hs : Tvs H vs ts) : Tvs H (v :: vs) (t :: ts)
end
mutual
theorem Tv.mono {H H' : Hp} (e : ∀ a xs, H a = some (.tup xs) → H' a = some (.tup xs)) : ∀ {v : V} {t : Thg}, Tv H v t → Tv H' v t
  | _, _, .num i => .num i
  | _, _, .word s => .word s
  | _, _, .node h hs nb => .node (e _ _ h) (Tvs.mono e hs) nb
theorem Tvs.mono {H H' : Hp} (e : ∀ a xs, H a = some (.tup xs) → H' a = some (.tup xs)) : ∀ {vs : List V} {ts : List Thg}, Tvs H vs ts → Tvs H' vs ts
  | _, _, .nil => .nil
  | _, _, .cons h hs => .cons (Tv.mono e h) (Tvs.mono e hs)
end
/-- tuples stay -/
def TupEx (H H' : Hp) : Prop := ∀ a xs, H a = some (.tup xs) → H' a = some (.tup xs)
theorem TupEx.of {H H' : Hp} (e : Ex H H') : TupEx H H' := fun a xs h => e a _ h
theorem TupEx.trans {H H1 H2 : Hp} (a : TupEx H H1) (b : TupEx H1 H2) : TupEx H H2 := fun x xs h => b x xs (a x xs h)
theorem TupEx.lst {H : Hp} {l : Addr} {xs ys : List V} (h : H l = some (.lst xs)) : TupEx H (upd H l (.lst ys)) := fun a zs e => by
  rw [upd_ne (fun q => by rw [q, h] at e; cases e)]
  exact e
theorem Tvs.len {H : Hp} : ∀ {vs : List V} {ts : List Thg}, Tvs H vs ts → vs.length = ts.length
  | _, _, .nil => rfl
  | _, _, .cons _ hs => congrArg (· + 1) (Tvs.len hs)
theorem Tvs.app {H : Hp} {us : List V} {ss : List Thg} (k : Tvs H us ss) : ∀ {vs : List V} {ts : List Thg}, Tvs H vs ts → Tvs H (vs ++ us) (ts ++ ss)
  | _, _, .nil => k
  | _, _, .cons h hs => .cons h (Tvs.app k hs)
theorem Tvs.rev {H : Hp} : ∀ {vs : List V} {ts : List Thg}, Tvs H vs ts → Tvs H vs.reverse ts.reverse
  | _, _, .nil => .nil
  | _, _, .cons h hs => by
    rw [List.reverse_cons, List.reverse_cons]
    exact Tvs.app (.cons h .nil) (Tvs.rev hs)
theorem Tvs.split {H : Hp} : ∀ {ss ts : List Thg} {vs : List V}, Tvs H vs (ss ++ ts) → ∃ us ws, vs = us ++ ws ∧ Tvs H us ss ∧ Tvs H ws ts
  | [], _, vs, h => ⟨[], vs, rfl, .nil, h⟩
  | s :: ss, ts, _, .cons h hs => by
    obtain ⟨us, ws, e, h1, h2⟩ := Tvs.split (ss := ss) hs
    exact ⟨_ :: us, ws, by rw [e]; rfl, .cons h h1, h2⟩
theorem Tvs.get {H : Hp} : ∀ {vs : List V} {ts : List Thg} {i : Nat} {t : Thg}, Tvs H vs ts → ts[i]? = some t → ∃ v, vs[i]? = some v ∧ Tv H v t
  | _, _, i, t, .nil, e => by simp at e
  | _, _, 0, t, .cons h hs, e => by
    simp at e
    subst e
    exact ⟨_, by simp, h⟩
  | _, _, i + 1, t, .cons h hs, e => by
    obtain ⟨v, h1, h2⟩ := Tvs.get (i := i) hs (by simpa using e)
    exact ⟨v, by simpa using h1, h2⟩
/-- ("?", ..), ("~", ..): nothing within -/
def Thg.leafy (h : Str) : Bool := decide (h = "?") || decide (h = "~")
def Thg.kids : Thg → List Thg
  | .node h xs => if Thg.leafy h then [] else xs
  | _ => []
def Thg.isO : Thg → Bool
  | .node h _ => decide (h = "?")
  | _ => false
mutual
def Thg.pre : Thg → List Thg
  | .num i => [.num i]
  | .word s => [.word s]
  | .node h xs => .node h xs :: (if Thg.leafy h then [] else Thg.preL xs)
def Thg.preL : List Thg → List Thg
  | [] => []
  | x :: xs => Thg.pre x ++ Thg.preL xs
end
theorem Thg.pre_eq (t : Thg) : t.pre = t :: Thg.preL t.kids := by
  cases t with
  | num i => simp [Thg.pre, Thg.kids, Thg.preL]
  | word s => simp [Thg.pre, Thg.kids, Thg.preL]
  | node h xs =>
    simp only [Thg.pre, Thg.kids]
    split <;> simp [Thg.preL]
theorem Thg.preL_app : ∀ (xs ys : List Thg), Thg.preL (xs ++ ys) = Thg.preL xs ++ Thg.preL ys
  | [], _ => rfl
  | x :: xs, ys => by
    show Thg.pre x ++ Thg.preL (xs ++ ys) = _
    rw [Thg.preL_app xs ys, Thg.preL, List.append_assoc]
theorem Thg.preL_cons (t : Thg) (ts : List Thg) : Thg.preL (t :: ts) = t :: Thg.preL (t.kids ++ ts) := by
  rw [Thg.preL, Thg.pre_eq, Thg.preL_app]
  rfl
mutual
/-- unknowns have given way -/
def Thg.sub (f : Int → Option Thg) : Thg → Thg
  | .num i => .num i
  | .word s => .word s
  | .node h xs => if h = "?" then (match xs with
      | [.num n] => (f n).getD (.node h xs)
      | _ => .node h xs) else if h = "~" then .node h xs else .node h (Thg.subL f xs)
def Thg.subL (f : Int → Option Thg) : List Thg → List Thg
  | [] => []
  | x :: xs => Thg.sub f x :: Thg.subL f xs
end
/-- each unknown has a number -/
def Thg.okO : Thg → Prop
  | .node h xs => h = "?" → ∃ n, xs = [.num n]
  | _ => True
theorem Thg.subL_app (f : Int → Option Thg) : ∀ (xs ys : List Thg), Thg.subL f (xs ++ ys) = Thg.subL f xs ++ Thg.subL f ys
  | [], _ => rfl
  | x :: xs, ys => by
    show Thg.sub f x :: Thg.subL f (xs ++ ys) = _
    rw [Thg.subL_app f xs ys]
    rfl
theorem Thg.subL_len (f : Int → Option Thg) : ∀ (xs : List Thg), (Thg.subL f xs).length = xs.length
  | [] => rfl
  | x :: xs => congrArg (· + 1) (Thg.subL_len f xs)
/-- a part with these things within it -/
def Thg.headed : Thg → List Thg → Thg
  | t, [] => t
  | .node h _, ts => .node h ts
  | t, _ => t
theorem Thg.headed_sub (f : Int → Option Thg) {t : Thg} (ho : t.isO = false) : t.headed (Thg.subL f t.kids) = Thg.sub f t := by
  cases t with
  | num i => rfl
  | word s => rfl
  | node h xs =>
    have h1 : ¬ h = "?" := by simpa [Thg.isO] using ho
    by_cases h2 : h = "~"
    · subst h2
      simp [Thg.kids, Thg.leafy, Thg.subL, Thg.headed, Thg.sub, h1]
    · have hl : Thg.leafy h = false := by simp [Thg.leafy, h1, h2]
      simp only [Thg.kids, hl, Thg.sub, h1, h2, if_false]
      cases xs with
      | nil => rfl
      | cons x xs => rfl
/-- a forest with its first tree's head gone -/
def Thg.step : List Thg → List Thg
  | [] => []
  | t :: ts => t.kids ++ ts
theorem Thg.preL_step (ts : List Thg) : Thg.preL (Thg.step ts) = (Thg.preL ts).drop 1 := by
  cases ts with
  | nil => rfl
  | cons t ts =>
    rw [Thg.preL_cons]
    rfl
def Thg.steps (ts : List Thg) : Nat → List Thg
  | 0 => ts
  | n + 1 => Thg.step (Thg.steps ts n)
theorem Thg.preL_steps (ts : List Thg) : ∀ n, Thg.preL (Thg.steps ts n) = (Thg.preL ts).drop n
  | 0 => rfl
  | n + 1 => by
    show Thg.preL (Thg.step (Thg.steps ts n)) = _
    rw [Thg.preL_step, Thg.preL_steps ts n, List.drop_drop]
theorem Thg.preL_nil {ts : List Thg} (h : Thg.preL ts = []) : ts = [] := by
  cases ts with
  | nil => rfl
  | cons t ts =>
    rw [Thg.preL_cons] at h
    cases h
/-- where the n-th part stands: it is the first of a forest -/
theorem Thg.at_ {ts : List Thg} {n : Nat} {t : Thg} (h : (Thg.preL ts)[n]? = some t) : ∃ rest, Thg.steps ts n = t :: rest ∧ Thg.steps ts (n + 1) = t.kids ++ rest := by
  have e := Thg.preL_steps ts n
  cases hs : Thg.steps ts n with
  | nil =>
    rw [hs] at e
    have e : ([] : List Thg) = (Thg.preL ts).drop n := e
    have : (Thg.preL ts).length ≤ n := List.drop_eq_nil_iff.mp e.symm
    rw [List.getElem?_eq_none this] at h
    cases h
  | cons t' rest =>
    rw [hs, Thg.preL_cons] at e
    have h2 : ((Thg.preL ts).drop n)[0]? = some t := by rw [List.getElem?_drop]; exact h
    rw [← e] at h2
    simp at h2
    subst h2
    exact ⟨rest, rfl, by show Thg.step (Thg.steps ts n) = _; rw [hs]; rfl⟩
end LL
set_option maxHeartbeats 0
namespace K03
open PySem PySem.Spec PyProof.Rows L2
abbrev P0 : Program := PySem.Challenge.pw_nearestkinds_k03_whole_fillings
def top (i : Nat) : Stmt := P0.main.body.getD i (.Pass ⟨0, 0, 0, 0⟩)
end K03
set_option maxHeartbeats 8000000
/-! The hand that draws: _law_hand, _law_draw, _law_some. -/
namespace K03
open PySem PySem.Spec PyProof.Rows L2 Evl LL
/-- the names that stay the built-ins' own -/
structure FrH (mg : Str → Option Value) : Prop where
  abs : mg "abs" = none
  int : mg "int" = none
  len : mg "len" = none
  range : mg "range" = none
  isinstance : mg "isinstance" = none
  ValueError : mg "ValueError" = none
  repr : mg "repr" = none
  enumerate : mg "enumerate" = none
  any : mg "any" = none
/-- the hand at l: the cells' list, the next one's place, what is left of a great one, the mix, how many were mixed -/
def HandC (H : Hp) (l c : Addr) : Prop := ∃ (ns : List Int) (i g m t : Int), H l = some (.lst [.ref c, .int i, .int g, .int m, .int t]) ∧ H c = some (.lst (ns.map V.int)) ∧ 0 ≤ i ∧ ns.length ≤ 63
def Hand (H : Hp) (l : Addr) : Prop := ∃ (c : Addr), HandC H l c
theorem HandC.mono {H H' : Hp} {l c : Addr} (e : Ex H H') (h : HandC H l c) : HandC H' l c := by
  obtain ⟨ns, i, g, m, t, h1, h2, h3⟩ := h
  exact ⟨ns, i, g, m, t, e _ _ h1, e _ _ h2, h3⟩
theorem Hand.mono {H H' : Hp} {l : Addr} (e : Ex H H') (h : Hand H l) : Hand H' l := by
  obtain ⟨c, h⟩ := h
  exact ⟨c, h.mono e⟩
/-- a list of one's own stays apart from the hand -/
theorem HandC.own {H : Hp} {l c p : Addr} {o : HO} (h : HandC H l c) (hl : p ≠ l) (hc : p ≠ c) : HandC (upd H p o) l c := by
  obtain ⟨ns, i, g, m, t, h1, h2, h3⟩ := h
  exact ⟨ns, i, g, m, t, by rw [upd_ne (Ne.symm hl)]; exact h1, by rw [upd_ne (Ne.symm hc)]; exact h2, h3⟩
theorem HandC.new {H : Hp} {l c p : Addr} (h : HandC H l c) (hp : H p = none) : p ≠ l ∧ p ≠ c := by
  obtain ⟨ns, i, g, m, t, h1, h2, h3⟩ := h
  exact ⟨(fun e => by rw [e, h1] at hp; cases hp), (fun e => by rw [e, h2] at hp; cases hp)⟩
def spHand (K : PySem.W.Frag) : Sp := fun vs H Q _ => ∃ (a : Addr) (ns : List Int), vs = [.ref a] ∧ SqL K H a (ns.map V.int) ∧ ns.length ≤ 63 ∧ ∀ l H', H l = none → Ex H H' → Hand H' l → Q (.ref l) H'
def spDraw : Sp := fun vs H Q _ => ∃ (l c : Addr) (n : Int), vs = [.ref l, .int n] ∧ 1 ≤ n ∧ n < 1073741824 ∧ HandC H l c ∧ ∀ f H', 0 ≤ f → f < n → Exl l H H' → HandC H' l c → Q (.int f) H'
def spSome : Sp := fun vs H Q _ => ∃ (l c p : Addr) (xs : List V), vs = [.ref l, .ref p] ∧ p ≠ l ∧ (H p = some (.lst xs) ∨ H p = some (.tup xs)) ∧ xs ≠ [] ∧ xs.length ≤ 100000 ∧ HandC H l c ∧ ∀ v H', v ∈ xs → Exl l H H' → HandC H' l c → Q v H'
theorem cut_ints (ns : List Int) (lo hi : Option Int) : ∃ ms : List Int, cutV (ns.map V.int) lo hi = ms.map V.int ∧ ms.length ≤ ns.length := by
  refine ⟨(ns.drop (HT.sIx (ns.map V.int).length 0 lo)).take (HT.sIx (ns.map V.int).length (ns.map V.int).length hi - HT.sIx (ns.map V.int).length 0 lo), ?_, ?_⟩
  · unfold cutV
    rw [List.map_take, List.map_drop]
  · rw [List.length_take, List.length_drop]
    omega
def absI (n : Int) : Int := if n < 0 then -n else n
section
variable {P : Program} {w : World} {K : PySem.W.Frag} {mg : Str → Option Value} {base : Heap} {f : Addr} {fd : FuncData}
theorem scH : FnScope ["script", "cells", "cell"] ["script"] (defScope (top 13)) := ⟨rfl, rfl, rfl, by decide +kernel, rfl, by decide +kernel, by decide +kernel⟩
theorem ok_hand (F : FnT K "_law_hand" (top 13) f fd) (T : FrH mg) : FnOk P w K mg base CX0 1 f fd ["script"] (spHand K) := by
  have sc := scH
  refine F.ok scH (fun vs H Q E h => ?_) (fun cdv A outer s H vs Q E hr h => ?_)
  · obtain ⟨a, ns, rfl, _⟩ := h
    rfl
  refine ⟨_, PSs.nox (pss_cons (ps_setLc (i := 1) (own := [("cell", 2)]) (tt := tYes) rfl sc.nd rfl rfl (sw_true rfl rfl rfl (by decide +kernel)) (pi_list (pe_slice sl_list (pv 0) po_none (po_some pe_int))) (blkOk_by (N := ["script", "cells", "cell"]) (sc := defScope (top 13)) (by decide +kernel)) (fun _ _ _ _ _ => (pg_name (i := 2) sc.nd rfl (Or.inl rfl))) (fun _ _ _ _ _ => pts_nil) (fun _ _ _ _ _ => (pe_callB call_abs (by rfl) T.abs (by decide +kernel) (pa_cons (pe_callTy call_int1 (by rfl) T.int (by decide +kernel) (pa_cons (pv 2) pa_nil)) pa_nil))))
      (pss_one (ps_ret (pe_lst (pa_cons (pv 1) (pa_cons pe_int (pa_cons pe_int (pa_cons (pe_op op_add pe_int (pe_op op_mul pe_int (pe_callB call_len (by rfl) T.len (by decide +kernel) (pa_cons (pv 1) pa_nil)))) (pa_cons pe_int pa_nil))))))))), ?_⟩
  obtain ⟨a, ns, rfl, hS, hl, k⟩ := h
  obtain ⟨ms, e1, e2⟩ := cut_ints ns none (some 63)
  refine q_asgL (el_lcNL (fun _ => true) (fun i => .int (absI (ms[i]?.getD 0))) (xs := ms.map V.int) ?_ (by rw [List.length_map]; omega) (fun x => rfl) (fun i x H1 e hx => ?_) (fun i x H1 e hx _ => ?_)) ?_
  · rw [← e1]
    exact el_sl (ev_var rfl) eo_none (eo_some ev_c) hS
  · exact fun H2 _ Q q => q H2 (Ex.refl H2)
  · rw [List.getElem?_map] at hx
    obtain ⟨n, hn, rfl⟩ := Option.map_eq_some_iff.mp hx
    rw [hn]
    refine ev_cb (ea_cons (ev_cb (ea_cons (ev_var rfl) ea_nil) (fun H2 _ Q q => .inl ⟨n, rfl, q H2 (Ex.refl H2)⟩)) ea_nil) (fun H2 _ Q q => ⟨n, rfl, q H2 (Ex.refl H2)⟩)
  · intro c H1 hc e1 h1
    have e3 : given (ms.map V.int).length (fun _ => true) (fun i => V.int (absI (ms[i]?.getD 0))) = ((List.range (ms.map V.int).length).map fun i => absI (ms[i]?.getD 0)).map V.int := by
      unfold given
      rw [List.filter_eq_self.mpr (fun _ _ => rfl), List.map_map]
      rfl
    rw [e3] at h1
    obtain ⟨ks, hk⟩ : ∃ ks : List Int, ks = (List.range (ms.map V.int).length).map fun i => absI (ms[i]?.getD 0) := ⟨_, rfl⟩
    rw [← hk] at h1
    have kl : ks.length ≤ 63 := by
      rw [hk, List.length_map, List.length_range, List.length_map]
      omega
    refine s_retL (el_lst (ea_cons (ev_var rfl) (ea_cons ev_c (ea_cons ev_c (ea_cons (ev_op ev_c (ev_op ev_c (ev_cb (z := .int ((ks.map V.int).length : Nat)) (ea_cons (ev_var rfl) ea_nil) ?len) (rv_I (Or.inl ⟨by decide, by decide⟩))) rv_I0) (ea_cons ev_c ea_nil))))) (by show 5 ≤ 100000; decide)) ?_
    case len =>
      exact fun H2 e Q q => ⟨_, _, rfl, .inl ⟨_, sq_of (e c _ h1), rfl⟩, q H2 (Ex.refl H2)⟩
    · intro p H2 hp e4 h2
      refine k p H2 (fresh_back e1 hp) (e1.trans e4) ⟨c, ks, _, _, _, _, h2, e4 c _ h1, by decide, kl⟩
theorem scD : FnScope ["hand", "many", "number", "cell", "figure"] ["hand", "many"] (defScope (top 14)) := ⟨rfl, rfl, rfl, by decide +kernel, rfl, by decide +kernel, by decide +kernel⟩
theorem ev_hand {σ : L2.St} {H : Hp} {l : Addr} {xs : List V} {j : Int} {v : V} (h0 : σ[0]? = some (some (.ref l))) (h : H l = some (.lst xs)) (ha : atI xs j = some v) : Ev (tOp (rIxL K) (tVar 0) (tC (.int j))) σ H v := ev_op (ev_var h0) ev_c (rv_ixL (sq_of h) ha)
theorem rc_int {H : Hp} {i : Int} {r : List V → Hp → VK → Prop} (h : ∀ H1 Q, Q (.int i) H1 → r [.int i] H1 Q) : RC r [.int i] H (.int i) := fun H1 _ Q q => h H1 Q (q H1 (Ex.refl H1))
theorem fm_nn {a b : Int} (h : 0 < b) : 0 ≤ a.fmod b ∧ a.fmod b < b := ⟨Int.fmod_nonneg_of_pos a h, Int.fmod_lt_of_pos a h⟩
section
variable {σ : L2.St} {H : Hp} {D : Ends} {ta tb te : TE} {tz : TS} {l : Addr} {xs ys : List V} {j : Nat} {v : V}
/-- xs[j] = e, told by what stands behind -/
theorem s_setX (hl : H l = some (.lst xs)) (h : Ev te σ H v) (ho : Ev ta σ H (.ref l)) (hi : Ev tb σ H (.int (j : Int))) (hj : j < xs.length) (hy : xs.set j v = ys) (k : ∀ G, G l = some (.lst ys) → Exl l H G → D.nx σ G) : tAsg te (gSub ta tb rSetL) D σ H :=
  s_setL hl h ho hi hj fun H1 e => k _ (by rw [hy]; exact upd_same) ((Exl.of e).trans Exl.upd)
theorem q_setX (hl : H l = some (.lst xs)) (h : Ev te σ H v) (ho : Ev ta σ H (.ref l)) (hi : Ev tb σ H (.int (j : Int))) (hj : j < xs.length) (hy : xs.set j v = ys) (k : ∀ G, G l = some (.lst ys) → Exl l H G → tz D σ G) : tSeq (tAsg te (gSub ta tb rSetL)) tz D σ H :=
  s_setX (D := { D with nx := tz D }) hl h ho hi hj hy k
end
theorem ok_draw (F : FnT K "_law_draw" (top 14) f fd) (T : FrH mg) : FnOk P w K mg base CX0 1 f fd ["hand", "many"] spDraw := by
  have sc := scD
  refine F.ok scD (fun vs H Q E h => ?_) (fun cdv A outer s H vs Q E hr h => ?_)
  · obtain ⟨l, _, n, rfl, _⟩ := h
    rfl
  refine ⟨_, PSs.nox (pss_cut (ps_if (PW.pt (pw_and (pt_cmpR op_eq (pe_ix ix_list (pv 0) pe_int (fun _ _ => rfl)) pe_int (nomark _)) (pw_and1 (pt_cmpR op_lt (pe_ix ix_list (pv 0) pe_int (fun _ _ => rfl)) (pe_callB call_len (by rfl) T.len (by decide +kernel) (pa_cons (pe_ix ix_list (pv 0) pe_int (fun _ _ => rfl)) pa_nil)) (nomark _))))) (pss_cons (ps_set (i := 3) sc.nd rfl (Or.inl rfl) (pe_ix ix_list (pe_ix ix_list (pv 0) pe_int (fun _ _ => rfl)) (pe_ix ix_list (pv 0) pe_int (fun _ _ => rfl)) (fun _ _ => rfl)))
      (pss_cons (ps_asg (pe_op op_add (pe_ix ix_list (pv 0) pe_int (fun _ _ => rfl)) pe_int) (pg_sub (pv 0) pe_int set_list))
      (pss_cons (ps_asg (pe_op op_modN (pe_callTy call_int1 (by rfl) T.int (by decide +kernel) (pa_cons (pe_op op_add (pe_op op_add (pe_op op_mul (pe_ix ix_list (pv 0) pe_int (fun _ _ => rfl)) pe_int) (pv 3)) pe_int) pa_nil)) pe_int) (pg_sub (pv 0) pe_int set_list))
      (pss_one (ps_if (pt_cmpR op_ge (pv 3) (pe_op op_pow pe_int pe_int) (nomark _)) (pss_one (ps_asg (pv 3) (pg_sub (pv 0) pe_int set_list))) pss_nil))))) pss_nil)
      (pss_cons (ps_if (pt_cmpR op_gt (pe_ix ix_list (pv 0) pe_int (fun _ _ => rfl)) pe_int (nomark _)) (pss_cons (ps_set (i := 4) sc.nd rfl (Or.inl rfl) (pe_op op_modN (pe_callTy call_int1 (by rfl) T.int (by decide +kernel) (pa_cons (pe_ix ix_list (pv 0) pe_int (fun _ _ => rfl)) pa_nil)) (pv 1)))
      (pss_cons (ps_asg (pe_op op_fdivN (pe_ix ix_list (pv 0) pe_int (fun _ _ => rfl)) (pv 1)) (pg_sub (pv 0) pe_int set_list))
      (pss_one (ps_ret (pv 4))))) pss_nil)
      (pss_cons (ps_asg (pe_op op_add (pe_ix ix_list (pv 0) pe_int (fun _ _ => rfl)) pe_int) (pg_sub (pv 0) pe_int set_list))
      (pss_cons (ps_set (i := 2) sc.nd rfl (Or.inl rfl) (pe_op op_modN (pe_callTy call_int1 (by rfl) T.int (by decide +kernel) (pa_cons (pe_op op_mul (pe_callTy call_int1 (by rfl) T.int (by decide +kernel) (pa_cons (pe_op op_add (pe_ix ix_list (pv 0) pe_int (fun _ _ => rfl)) (pe_op op_mul pe_int (pe_ix ix_list (pv 0) pe_int (fun _ _ => rfl)))) pa_nil)) pe_int) pa_nil)) pe_int))
      (pss_cons (ps_set (i := 2) sc.nd rfl (Or.inl rfl) (pe_op op_modN (pe_callTy call_int1 (by rfl) T.int (by decide +kernel) (pa_cons (pe_op op_mul (pv 2) (pe_op op_add (pe_op op_fdivN (pv 2) pe_int) pe_int)) pa_nil)) pe_int))
      (pss_cons (ps_set (i := 2) sc.nd rfl (Or.inl rfl) (pe_op op_modN (pe_callTy call_int1 (by rfl) T.int (by decide +kernel) (pa_cons (pe_op op_mul (pv 2) (pe_op op_add (pe_op op_fdivN (pv 2) pe_int) pe_int)) pa_nil)) pe_int))
      (pss_one (ps_ret (pe_op op_modN (pe_callTy call_int1 (by rfl) T.int (by decide +kernel) (pa_cons (pe_op op_fdivN (pv 2) pe_int) pa_nil)) (pv 1)))))))))), ?_⟩
  obtain ⟨l, c, n, rfl, n1, n2, hh, k⟩ := h
  -- Mid: behind the first if
  refine q_cut (M := fun σ H' => (∃ a b c, σ = [some (.ref l), some (.int n), a, b, c]) ∧ Exl l H H' ∧ HandC H' l c) ?first ?rest
  case first =>
    obtain ⟨ns, i, g, m, t, h1, h2, hi, hl⟩ := hh
    have cl : c ≠ l := fun e => by
      rw [e, h1] at h2
      cases ns <;> simp at h2
    refine s_if (b := decide (g = 0) && decide (i < (ns.length : Nat))) ?t ?yes ?nay
    case t =>
      refine et_and (et_test (ev_is (ev_op (ev_hand rfl h1 (v := .int g) rfl) ev_c (rv_eq rfl)) ?_)) fun _ => et_test (ev_is (ev_op (ev_hand rfl h1 (v := .int i) rfl) (ev_cb (z := .int (ns.length : Nat)) (ea_cons (ev_hand rfl h1 (v := .ref c) rfl) ea_nil) ?_) rv_I0) ?_)
      · by_cases e : g = 0 <;> simp [e]
      · exact fun H2 e Q q => ⟨_, _, rfl, .inl ⟨_, sq_of (e c _ h2), (List.length_map ..).symm⟩, q H2 (Ex.refl H2)⟩
      · rfl
    case nay => exact fun _ H1 e => ⟨⟨_, _, _, rfl⟩, Exl.of e, HandC.mono e ⟨ns, i, g, m, t, h1, h2, hi, hl⟩⟩
    case yes =>
      intro hb H1 e1
      obtain ⟨hg, hlt⟩ : g = 0 ∧ i < (ns.length : Nat) := by simpa using hb
      obtain ⟨j, rfl⟩ : ∃ j : Nat, i = (j : Int) := ⟨i.toNat, by omega⟩
      have hj : j < ns.length := by omega
      have c1 := e1 _ _ h1
      have d1 := e1 _ _ h2
      refine q_asg (v := .int ns[j]) (ev_op (ev_hand rfl c1 (v := .ref c) rfl) (ev_hand rfl c1 (v := .int (j : Int)) rfl) (rv_ixL (sq_of d1) (atI_nat (by simp [hj])))) fun H2 e2 => ?_
      have c2 := e2 _ _ c1
      have d2 := e2 _ _ d1
      refine q_setX (j := 1) (v := .int ((j : Int) + 1)) c2 (ev_op (ev_hand rfl c2 (v := .int (j : Int)) rfl) ev_c rv_I0) (ev_var rfl) ev_c (by show 1 < 5; decide) rfl fun H3 c3 e3 => ?_
      refine q_setX (j := 3) (v := .int ((m * 48271 + ns[j] + 31).fmod 2147483647)) c3
        (ev_op (ev_cb (ea_cons (ev_op (ev_op (ev_op (ev_hand rfl c3 (v := .int m) rfl) ev_c (rv_I (Or.inr ⟨by decide, by decide⟩))) (ev_var rfl) rv_I0) ev_c rv_I0) ea_nil) (rc_int fun H1 Q q => .inl ⟨_, rfl, q⟩)) ev_c (rv_I (by decide)))
        (ev_var rfl) ev_c (by show 3 < 5; decide) rfl fun H4 c4 e4 => ?_
      have d4 := e4 _ _ cl (e3 _ _ cl d2)
      have x4 : Exl l H H4 := (((Exl.of e1).trans (Exl.of e2)).trans e3).trans e4
      revert c4
      generalize (m * 48271 + ns[j] + 31).fmod 2147483647 = m2
      intro c4
      refine s_if (b := decide ((10 : Int) ^ (18 : Int).toNat ≤ ns[j])) (et_test (ev_op (ev_var rfl) (ev_op ev_c ev_c (rv_I ⟨by decide, by decide, by decide⟩)) rv_I0)) (fun _ H5 e5 => ?_) (fun _ H5 e5 => ?_)
      · refine s_setX (j := 2) (v := .int ns[j]) (e5 _ _ c4) (ev_var rfl) (ev_var rfl) ev_c (by show 2 < 5; decide) rfl fun H6 c6 e6 => ?_
        exact ⟨⟨_, _, _, rfl⟩, (x4.trans (Exl.of e5)).trans e6, ns, _, _, _, _, c6, e6 _ _ cl (e5 _ _ d4), by omega, hl⟩
      · exact ⟨⟨_, _, _, rfl⟩, x4.trans (Exl.of e5), ns, _, _, _, _, e5 _ _ c4, e5 _ _ d4, by omega, hl⟩
  case rest =>
    rintro σ H1 ⟨⟨a, b, d, rfl⟩, x1, ns, i, g, m, t, h1, h2, hi, hl⟩
    have cl : c ≠ l := fun e => by
      rw [e, h1] at h2
      cases ns <;> simp at h2
    refine q_if (b := decide (0 < g)) (et_test (ev_op (ev_hand rfl h1 (v := .int g) rfl) ev_c rv_I0)) (fun _ H2 e2 => ?_) (fun _ H2 e2 => ?_)
    · have c2 := e2 _ _ h1
      refine q_asg (v := .int (g.fmod n)) (ev_op (ev_cb (ea_cons (ev_hand rfl c2 (v := .int g) rfl) ea_nil) (rc_int fun H1 Q q => .inl ⟨_, rfl, q⟩)) (ev_var rfl) (rv_I (by omega))) fun H3 e3 => ?_
      have c3 := e3 _ _ c2
      refine q_setX (j := 2) (v := .int (g.fdiv n)) c3 (ev_op (ev_hand rfl c3 (v := .int g) rfl) (ev_var rfl) (rv_I ⟨by omega, by omega⟩)) (ev_var rfl) ev_c (by show 2 < 5; decide) rfl fun H4 c4 e4 => ?_
      refine s_ret (ev_var rfl) fun H5 e5 => ?_
      obtain ⟨f1, f2⟩ := fm_nn (a := g) (b := n) (by omega)
      exact k _ H5 f1 f2 ((((x1.trans (Exl.of e2)).trans (Exl.of e3)).trans e4).trans (Exl.of e5)) ⟨ns, i, _, _, _, e5 _ _ c4, e5 _ _ (e4 _ _ cl (e3 _ _ (e2 _ _ h2))), hi, hl⟩
    · have c2 := e2 _ _ h1
      show tSeq _ _ _ _ _
      refine q_setX (j := 4) (v := .int (t + 1)) c2 (ev_op (ev_hand rfl c2 (v := .int t) rfl) ev_c rv_I0) (ev_var rfl) ev_c (by show 4 < 5; decide) rfl fun H3 c3 e3 => ?_
      have d3 := e3 _ _ cl (e2 _ _ h2)
      have x3 : Exl l H H3 := (x1.trans (Exl.of e2)).trans e3
      refine q_asg (v := .int (((m + 6151 * (t + 1)) * 40692).fmod 2147483399)) (ev_op (ev_cb (ea_cons (ev_op (ev_cb (ea_cons (ev_op (ev_hand rfl c3 (v := .int m) rfl) (ev_op ev_c (ev_hand rfl c3 (v := .int (t + 1)) rfl) (rv_I (Or.inl ⟨by decide, by decide⟩))) rv_I0) ea_nil) (rc_int fun H1 Q q => .inl ⟨_, rfl, q⟩)) ev_c
        (rv_I (Or.inr ⟨by decide, by decide⟩))) ea_nil) (rc_int fun H1 Q q => .inl ⟨_, rfl, q⟩)) ev_c (rv_I (by decide))) fun H4 e4 => ?_
      obtain ⟨p1, p2⟩ := fm_nn (a := (m + 6151 * (t + 1)) * 40692) (b := 2147483399) (by decide)
      revert p1 p2
      generalize ((m + 6151 * (t + 1)) * 40692).fmod 2147483399 = r1
      intro p1 p2
      refine q_asg (v := .int ((r1 * (r1.fdiv 1223 + 52027)).fmod 2147483629)) (ev_op (ev_cb (ea_cons (ev_op (ev_var rfl) (ev_op (ev_op (ev_var rfl) ev_c (rv_I ⟨by decide, by decide⟩)) ev_c rv_I0) (rv_I (Or.inl ⟨by omega, by omega⟩))) ea_nil) (rc_int fun H1 Q q => .inl ⟨_, rfl, q⟩)) ev_c (rv_I (by decide))) fun H5 e5 => ?_
      obtain ⟨p3, p4⟩ := fm_nn (a := r1 * (r1.fdiv 1223 + 52027)) (b := 2147483629) (by decide)
      revert p3 p4
      generalize (r1 * (r1.fdiv 1223 + 52027)).fmod 2147483629 = r2
      intro p3 p4
      refine q_asg (v := .int ((r2 * (r2.fdiv 2671 + 69621)).fmod 2147483647)) (ev_op (ev_cb (ea_cons (ev_op (ev_var rfl) (ev_op (ev_op (ev_var rfl) ev_c (rv_I ⟨by decide, by decide⟩)) ev_c rv_I0) (rv_I (Or.inl ⟨by omega, by omega⟩))) ea_nil) (rc_int fun H1 Q q => .inl ⟨_, rfl, q⟩)) ev_c (rv_I (by decide))) fun H6 e6 => ?_
      generalize (r2 * (r2.fdiv 2671 + 69621)).fmod 2147483647 = r3
      refine s_ret (v := .int ((r3.fdiv 32).fmod n)) (ev_op (ev_cb (ea_cons (ev_op (ev_var rfl) ev_c (rv_I ⟨by decide, by decide⟩)) ea_nil) (rc_int fun H1 Q q => .inl ⟨_, rfl, q⟩)) (ev_var rfl) (rv_I (by omega))) fun H7 e7 => ?_
      obtain ⟨f1, f2⟩ := fm_nn (a := r3.fdiv 32) (b := n) (by omega)
      have ex := ((e4.trans e5).trans e6).trans e7
      exact k _ H7 f1 f2 (x3.trans (Exl.of ex)) ⟨ns, i, _, _, _, ex _ _ c3, ex _ _ d3, hi, hl⟩
theorem scS : FnScope ["hand", "things"] ["hand", "things"] (defScope (top 15)) := ⟨rfl, rfl, rfl, by decide +kernel, rfl, by decide +kernel, by decide +kernel⟩
structure Fs (P : Program) (w : World) (K : PySem.W.Frag) (mg : Str → Option Value) (base : Heap) : Prop extends FrH mg where
  h_law_draw : Has P w K mg base CX0 "_law_draw" 1 ["hand", "many"] spDraw
theorem ok_some (F : FnT K "_law_some" (top 15) f fd) (T : Fs P w K mg base) : FnOk P w K mg base CX0 2 f fd ["hand", "things"] spSome := by
  have sc := scS
  refine F.ok scS (fun vs H Q E h => ?_) (fun cdv A outer s H vs Q E hr h => ?_)
  · obtain ⟨l, _, p, xs, rfl, _⟩ := h
    rfl
  refine ⟨_, PSs.nox (pss_one (ps_ret (pe_ix ix_seq (pv 1) (pe_callH T.h_law_draw hr pass0 (pa_cons (pv 0) (pa_cons (pe_callB call_len (by rfl) T.len (by decide +kernel) (pa_cons (pv 1) pa_nil)) pa_nil))) (fun _ _ => rfl)))), ?_⟩
  obtain ⟨l, c, p, xs, rfl, pl, hp, ne, lx, hh, k⟩ := h
  have lp : 0 < xs.length := List.length_pos_iff.mpr ne
  refine ⟨_, rfl, _, rfl, _, rfl, _, xs.length, rfl, hp.elim (fun h => .inl ⟨_, sq_of h, rfl⟩) (fun h => .inr ⟨_, st_of h, rfl⟩), l, c, (xs.length : Nat), rfl, by omega, by omega, hh, fun f H' f0 f1 ex hh' => ?_⟩
  obtain ⟨j, rfl⟩ : ∃ j : Nat, f = (j : Int) := ⟨f.toNat, by omega⟩
  have hj : j < xs.length := by omega
  have e : xs[j]? = some xs[j] := by simp [hj]
  exact hp.elim (fun h => .inl ⟨p, xs, j, xs[j], rfl, rfl, sq_of (ex _ _ pl h), atI_nat e, k _ H' (List.getElem_mem hj) ex hh'⟩) (fun h => .inr (.inl ⟨p, xs, j, xs[j], rfl, rfl, st_of (ex _ _ pl h), atI_nat e, k _ H' (List.getElem_mem hj) ex hh'⟩))
end
end K03
set_option maxHeartbeats 4000000
/-! Things that are right; what a part is but for the things within; pairs. -/
namespace LL
open PySem PySem.Spec PyProof.Rows L2 Evl
mutual
def Thg.Wf : Thg → Prop
  | .num _ => True
  | .word s => PyData.strOk s = true
  | .node h xs => PyData.strOk h = true ∧ (Thg.leafy h = true → ∃ n, xs = [.num n]) ∧ Thg.WfL xs
def Thg.WfL : List Thg → Prop
  | [] => True
  | x :: xs => x.Wf ∧ Thg.WfL xs
end
theorem Thg.Wf.okO {t : Thg} (h : t.Wf) : t.okO := by
  cases t with
  | num _ => exact trivial
  | word _ => exact trivial
  | node hd xs =>
    intro e
    exact h.2.1 (by rw [e]; decide)
theorem Thg.Wf.kids {t : Thg} (h : t.Wf) : Thg.WfL t.kids := by
  cases t with
  | num _ => exact trivial
  | word _ => exact trivial
  | node hd xs =>
    simp only [Thg.kids]
    split
    · exact trivial
    · exact h.2.2
theorem Thg.WfL.mem {ts : List Thg} (h : Thg.WfL ts) : ∀ t ∈ ts, t.Wf := by
  induction ts with
  | nil => intro t ht; cases ht
  | cons x xs ih =>
    intro t ht
    rcases List.mem_cons.mp ht with e | e
    · rw [e]; exact h.1
    · exact ih h.2 t e
def Thg.rootD : Thg → PyData
  | .num i => .int i
  | .word s => .str s
  | .node h xs => if Thg.leafy h then .tuple [.str h, (match xs with
      | [.num n] => .int n
      | _ => .none)] else .tuple [.str h, .int (xs.length : Nat)]
theorem Thg.root_shaped {t : Thg} (h : t.Wf) : SeqAt.shaped t.rootD = true := by
  cases t with
  | num i => simp [Thg.rootD, SeqAt.shaped, PyData.canLay0, PyData.depth]
  | word s =>
    have h : PyData.strOk s = true := h
    simp [Thg.rootD, SeqAt.shaped, PyData.canLay0, PyData.depth, h]
  | node hd xs =>
    obtain ⟨h1, h2, _⟩ := h
    simp only [Thg.rootD]
    split
    · rename_i hl
      obtain ⟨n, rfl⟩ := h2 hl
      simp [SeqAt.shaped, PyData.canLay0, PyData.canLayAll0, PyData.depth, PyData.depthAll, h1]
    · simp [SeqAt.shaped, PyData.canLay0, PyData.canLayAll0, PyData.depth, PyData.depthAll, h1]
theorem Thg.root_leafy {h : Str} {xs : List Thg} {n : Int} (hl : Thg.leafy h = true) (e : xs = [.num n]) : (Thg.node h xs).rootD = .tuple [.str h, .int n] := by
  subst e
  simp only [Thg.rootD, hl, if_true]
theorem Thg.root_node {h : Str} {xs : List Thg} (hl : Thg.leafy h = false) : (Thg.node h xs).rootD = .tuple [.str h, .int (xs.length : Nat)] := by
  simp only [Thg.rootD, hl, Bool.false_eq_true, if_false]
theorem Thg.root_tup {h : Str} {xs : List Thg} (w : (Thg.node h xs).Wf) : ∃ i, (Thg.node h xs).rootD = .tuple [.str h, .int i] := by
  cases hl : Thg.leafy h with
  | true =>
    obtain ⟨n, e⟩ := w.2.1 hl
    exact ⟨n, Thg.root_leafy hl e⟩
  | false => exact ⟨_, Thg.root_node hl⟩
theorem eqv_pair {h k : Str} {i j : Int} (e : PyData.eqv (.tuple [.str h, .int i]) (.tuple [.str k, .int j]) = true) : h = k ∧ i = j := by
  simpa [PyData.eqv, PyData.eqvAll] using e
/-- parts of equal roots: equal if the things within are -/
theorem Thg.root_eq {a b : Thg} (ha : a.Wf) (hb : b.Wf) (h : PyData.eqv a.rootD b.rootD = true) : a.kids.length = b.kids.length ∧ (a.kids = b.kids → a = b) ∧ a.isO = b.isO := by
  cases a with
  | num i =>
    cases b with
    | num j =>
      have e : i = j := by simpa [Thg.rootD, PyData.eqv] using h
      rw [e]
      exact ⟨rfl, fun _ => rfl, rfl⟩
    | word s => simp [Thg.rootD, PyData.eqv] at h
    | node k ys =>
      obtain ⟨n, e⟩ := Thg.root_tup hb
      rw [e] at h
      simp [Thg.rootD, PyData.eqv] at h
  | word s =>
    cases b with
    | num j => simp [Thg.rootD, PyData.eqv] at h
    | word z =>
      have e : s = z := by simpa [Thg.rootD, PyData.eqv] using h
      rw [e]
      exact ⟨rfl, fun _ => rfl, rfl⟩
    | node k ys =>
      obtain ⟨n, e⟩ := Thg.root_tup hb
      rw [e] at h
      simp [Thg.rootD, PyData.eqv] at h
  | node k xs =>
    cases b with
    | num j =>
      obtain ⟨n, e⟩ := Thg.root_tup ha
      rw [e] at h
      simp [Thg.rootD, PyData.eqv] at h
    | word z =>
      obtain ⟨n, e⟩ := Thg.root_tup ha
      rw [e] at h
      simp [Thg.rootD, PyData.eqv] at h
    | node l ys =>
      obtain ⟨n, e1⟩ := Thg.root_tup ha
      obtain ⟨m, e2⟩ := Thg.root_tup hb
      have h2 := h
      rw [e1, e2] at h2
      obtain ⟨e3, _⟩ := eqv_pair h2
      rw [← e3] at h hb ⊢
      cases hl : Thg.leafy k with
      | true =>
        obtain ⟨n', f1⟩ := ha.2.1 hl
        obtain ⟨m', f2⟩ := hb.2.1 hl
        rw [Thg.root_leafy hl f1, Thg.root_leafy hl f2] at h
        obtain ⟨_, e4⟩ := eqv_pair h
        rw [f1, f2, e4]
        exact ⟨rfl, fun _ => rfl, rfl⟩
      | false =>
        rw [Thg.root_node hl, Thg.root_node hl] at h
        obtain ⟨_, e4⟩ := eqv_pair h
        have k1 : ∀ zs, (Thg.node k zs).kids = zs := fun zs => by simp [Thg.kids, hl]
        rw [k1, k1]
        exact ⟨by omega, fun e => by rw [e], rfl⟩
theorem Thg.root_ne {a b : Thg} (ha : a.Wf) (h : PyData.eqv a.rootD b.rootD = false) : a ≠ b := fun e => by
  subst e
  have hs := Thg.root_shaped ha
  have hc : a.rootD.canLay0 = true := by
    unfold SeqAt.shaped at hs
    exact (Bool.and_eq_true_iff.mp hs).1
  rw [SeqAt.eqv_refl _ hc] at h
  cases h
inductive Prs (H : Hp) : List V → List (Thg × Thg) → Prop
  | nil : Prs H [] []
  | cons {T : Addr} {x y : V} {a b : Thg} {vs : List V} {ps : List (Thg × Thg)} (e : H T = some (.tup [x, y])) (hx : Tv H x a) (hy : Tv H y b) (hs : Prs H vs ps) : Prs H (.ref T :: vs) ((a, b) :: ps)
theorem Prs.mono {H H' : Hp} (e : TupEx H H') {vs : List V} {ps : List (Thg × Thg)} (h : Prs H vs ps) : Prs H' vs ps := by
  induction h with
  | nil => exact .nil
  | cons e0 hx hy _ ih => exact .cons (e _ _ e0) (hx.mono e) (hy.mono e) ih
theorem Prs.len {H : Hp} {vs : List V} {ps : List (Thg × Thg)} (h : Prs H vs ps) : vs.length = ps.length := by
  induction h with
  | nil => rfl
  | cons _ _ _ _ ih => exact congrArg (· + 1) ih
theorem Prs.app {H : Hp} {us : List V} {qs : List (Thg × Thg)} (k : Prs H us qs) {vs : List V} {ps : List (Thg × Thg)} (h : Prs H vs ps) : Prs H (vs ++ us) (ps ++ qs) := by
  induction h with
  | nil => exact k
  | cons e hx hy _ ih => exact .cons e hx hy ih
theorem Prs.split {H : Hp} : ∀ {ps qs : List (Thg × Thg)} {vs : List V}, Prs H vs (ps ++ qs) → ∃ us ws, vs = us ++ ws ∧ Prs H us ps ∧ Prs H ws qs
  | [], _, vs, h => ⟨[], vs, rfl, .nil, h⟩
  | p :: ps, qs, _, .cons e hx hy hs => by
    obtain ⟨us, ws, e1, h1, h2⟩ := Prs.split (ps := ps) hs
    exact ⟨_ :: us, ws, by rw [e1]; rfl, .cons e hx hy h1, h2⟩
/-- the pairs of a zip -/
theorem Prs.zip {H : Hp} : ∀ {Ts : List Addr} {xs ys : List V} {as bs : List Thg}, Tvs H xs as → Tvs H ys bs → Ts.length = min xs.length ys.length →
    (∀ (i : Nat) (T : Addr), Ts[i]? = some T → ∃ x y, xs[i]? = some x ∧ ys[i]? = some y ∧ H T = some (.tup [x, y])) → Prs H (Ts.map V.ref) (as.zip bs)
  | [], _, _, _, _, .nil, _, _, _ => .nil
  | [], _, _, _, _, .cons _ _, .nil, _, _ => .nil
  | [], _, _, _, _, .cons _ _, .cons _ _, h, _ => by simp at h
  | T :: Ts, _, _, _, _, .nil, _, h, _ => by simp at h
  | T :: Ts, _, _, _, _, .cons _ _, .nil, h, _ => by simp at h
  | T :: Ts, _, _, _, _, .cons h1 h2, .cons k1 k2, h, g => by
    obtain ⟨x, y, e1, e2, e3⟩ := g 0 T rfl
    simp at e1 e2
    subst e1 e2
    refine .cons e3 h1 k1 (Prs.zip h2 k2 (by simp at h; omega) fun i T' hi => ?_)
    obtain ⟨x', y', f1, f2, f3⟩ := g (i + 1) T' (by simpa using hi)
    exact ⟨x', y', by simpa using f1, by simpa using f2, f3⟩
/-- the weight of pairs -/
def wtP (ps : List (Thg × Thg)) : Nat := (ps.map fun p => p.1.pre.length).sum
theorem wtP_app (ps qs : List (Thg × Thg)) : wtP (ps ++ qs) = wtP ps + wtP qs := by
  unfold wtP
  rw [List.map_append, List.sum_append]
theorem wtP_rev (ps : List (Thg × Thg)) : wtP ps.reverse = wtP ps := by
  induction ps with
  | nil => rfl
  | cons p ps ih =>
    rw [List.reverse_cons, wtP_app, ih]
    unfold wtP
    simp
    omega
theorem preL_sum : ∀ ts : List Thg, (Thg.preL ts).length = (ts.map fun t => t.pre.length).sum
  | [] => rfl
  | t :: ts => by
    show (Thg.pre t ++ Thg.preL ts).length = _
    rw [List.length_append, preL_sum ts]
    rfl
theorem wtP_zip : ∀ (as bs : List Thg), wtP (as.zip bs) ≤ (Thg.preL as).length
  | [], _ => by simp [wtP]
  | a :: as, [] => by simp [wtP]
  | a :: as, b :: bs => by
    have := wtP_zip as bs
    show a.pre.length + wtP (as.zip bs) ≤ (Thg.pre a ++ Thg.preL as).length
    rw [List.length_append]
    omega
theorem wtP_len (ps : List (Thg × Thg)) : ps.length ≤ wtP ps := by
  induction ps with
  | nil => exact Nat.zero_le _
  | cons p ps ih =>
    show ps.length + 1 ≤ p.1.pre.length + wtP ps
    rw [Thg.pre_eq, List.length_cons]
    omega
theorem zip_all {as bs : List Thg} (h : as.length = bs.length) : as = bs ↔ ∀ p ∈ as.zip bs, p.1 = p.2 := by
  induction as generalizing bs with
  | nil =>
    cases bs with
    | nil => simp
    | cons _ _ => simp at h
  | cons a as ih =>
    cases bs with
    | nil => simp at h
    | cons b bs =>
      simp at h
      simp [ih h]
end LL
set_option maxHeartbeats 4000000
/-! What a thing becomes when all unknowns give way; its unknowns. -/
namespace LL
open PySem PySem.Spec PyProof.Rows L2 Evl
abbrev all_ (G : Int → Thg) : Int → Option Thg := fun n => some (G n)
theorem Thg.sub_open (G : Int → Thg) (n : Int) : Thg.sub (all_ G) (.node "?" [.num n]) = G n := by simp [Thg.sub]
/-- the number of an unknown -/
def Thg.unk : Thg → Option Int
  | .node h [.num n] => if h = "?" then some n else none
  | _ => none
/-- the unknowns' numbers -/
def Thg.unkL (ts : List Thg) : List Int := (Thg.preL ts).filterMap Thg.unk
theorem Thg.unkL_app (xs ys : List Thg) : Thg.unkL (xs ++ ys) = Thg.unkL xs ++ Thg.unkL ys := by
  unfold Thg.unkL
  rw [Thg.preL_app, List.filterMap_append]
theorem Thg.unkL_one (t : Thg) : Thg.unkL [t] = (match t.unk with
    | some n => [n]
    | none => []) ++ Thg.unkL t.kids := by
  unfold Thg.unkL
  rw [Thg.preL_cons, List.append_nil, List.filterMap_cons]
  cases t.unk <;> rfl
theorem Thg.unk_closed {t : Thg} (h : t.isO = false) : t.unk = none := by
  cases t with
  | num _ => rfl
  | word _ => rfl
  | node k xs =>
    have hk : ¬ k = "?" := by simpa [Thg.isO] using h
    cases xs with
    | nil => rfl
    | cons x xs =>
      cases x with
      | num n =>
        cases xs with
        | nil => simp [Thg.unk, hk]
        | cons _ _ => rfl
      | word _ => rfl
      | node _ _ => rfl
theorem Thg.mem_unkL_cons {t : Thg} {ts : List Thg} {n : Int} : n ∈ Thg.unkL (t :: ts) ↔ n ∈ Thg.unkL [t] ∨ n ∈ Thg.unkL ts := by
  have e : t :: ts = [t] ++ ts := rfl
  rw [e, Thg.unkL_app, List.mem_append]
/-- unknowns of the first ones of pairs -/
def unkP (S : List (Thg × Thg)) : List Int := Thg.unkL (S.map (·.1))
theorem unkP_app (S R : List (Thg × Thg)) : unkP (S ++ R) = unkP S ++ unkP R := by
  unfold unkP
  rw [List.map_append, Thg.unkL_app]
theorem unkP_zip {as bs : List Thg} (h : as.length = bs.length) : unkP (as.zip bs) = Thg.unkL as := by
  unfold unkP
  rw [List.map_fst_zip (by omega)]
theorem wtP_zip_eq {as bs : List Thg} (h : as.length = bs.length) : wtP (as.zip bs) = (Thg.preL as).length := by
  unfold wtP
  rw [preL_sum, show ((as.zip bs).map fun p => p.1.pre.length) = (((as.zip bs).map (·.1)).map fun t => t.pre.length) by rw [List.map_map]; rfl, List.map_fst_zip (by omega)]
theorem zip_sub {f : Int → Option Thg} {as bs : List Thg} (h : as.length = bs.length) : Thg.subL f as = bs ↔ ∀ p ∈ as.zip bs, Thg.sub f p.1 = p.2 := by
  induction as generalizing bs with
  | nil =>
    cases bs with
    | nil => simp [Thg.subL]
    | cons _ _ => simp at h
  | cons a as ih =>
    cases bs with
    | nil => simp at h
    | cons b bs =>
      simp at h
      simp [Thg.subL, ih h]
/-- two closed parts of one root: the one becomes the other if the things within do -/
theorem Thg.sub_root (f : Int → Option Thg) {c d : Thg} (wc : c.Wf) (wd : d.Wf) (ho : c.isO = false) (h : PyData.eqv c.rootD d.rootD = true) : Thg.sub f c = d ↔ ∀ p ∈ c.kids.zip d.kids, Thg.sub f p.1 = p.2 := by
  obtain ⟨r1, r2, r3⟩ := Thg.root_eq wc wd h
  have same : c.kids = [] → (Thg.sub f c = d ↔ ∀ p ∈ c.kids.zip d.kids, Thg.sub f p.1 = p.2) := fun e => by
    have ed : d.kids = [] := by
      rw [e] at r1
      exact List.eq_nil_of_length_eq_zero r1.symm
    have cd := r2 (by rw [e, ed])
    have hs := Thg.headed_sub f ho
    rw [e] at hs
    have hh : c.headed [] = c := by cases c <;> rfl
    have hs : c.headed [] = Thg.sub f c := hs
    rw [← hs, hh, e]
    simp [cd]
  cases c with
  | num _ => exact same rfl
  | word _ => exact same rfl
  | node k xs =>
    cases hl : Thg.leafy k with
    | true => exact same (by simp [Thg.kids, hl])
    | false =>
      have k1 : ∀ zs, (Thg.node k zs).kids = zs := fun zs => by simp [Thg.kids, hl]
      cases d with
      | num j =>
        rw [Thg.root_node hl] at h
        simp [Thg.rootD, PyData.eqv] at h
      | word j =>
        rw [Thg.root_node hl] at h
        simp [Thg.rootD, PyData.eqv] at h
      | node l ys =>
        obtain ⟨m, e2⟩ := Thg.root_tup wd
        rw [Thg.root_node hl, e2] at h
        obtain ⟨e3, _⟩ := eqv_pair h
        rw [← e3] at r1 ⊢
        rw [k1, k1] at r1
        rw [k1, k1, ← zip_sub r1]
        have n1 : ¬ k = "?" := by simpa [Thg.isO] using ho
        have n2 : ¬ k = "~" := fun e => by rw [e] at hl; exact absurd hl (by decide)
        have es : Thg.sub f (.node k xs) = .node k (Thg.subL f xs) := by simp only [Thg.sub, n1, n2, if_false]
        rw [es]
        exact ⟨fun e => by cases e; rfl, fun e => by rw [e]⟩
/-- a closed part keeps its root -/
theorem Thg.sub_rootD (f : Int → Option Thg) {c : Thg} (ho : c.isO = false) : (Thg.sub f c).rootD = c.rootD := by
  cases c with
  | num _ => rfl
  | word _ => rfl
  | node k xs =>
    have n1 : ¬ k = "?" := by simpa [Thg.isO] using ho
    by_cases n2 : k = "~"
    · have es : Thg.sub f (.node k xs) = .node k xs := by simp only [Thg.sub]; rw [if_neg n1, if_pos n2]
      rw [es]
    · have hl : Thg.leafy k = false := by simp [Thg.leafy, n1, n2]
      have es : Thg.sub f (.node k xs) = .node k (Thg.subL f xs) := by simp only [Thg.sub, n1, n2, if_false]
      rw [es, Thg.root_node hl, Thg.root_node hl, Thg.subL_len]
theorem Thg.sub_ne (f : Int → Option Thg) {c d : Thg} (wc : c.Wf) (ho : c.isO = false) (h : PyData.eqv c.rootD d.rootD = false) : Thg.sub f c ≠ d := fun e => by
  rw [← e, Thg.sub_rootD f ho] at h
  have hs := Thg.root_shaped wc
  have hc : c.rootD.canLay0 = true := by
    unfold SeqAt.shaped at hs
    exact (Bool.and_eq_true_iff.mp hs).1
  rw [SeqAt.eqv_refl _ hc] at h
  cases h
/-- a dict whose keys are unlike numbers -/
def KeyI (kvs : List (Key × V)) : Prop := (kvs.map (·.1)).Nodup ∧ ∀ p ∈ kvs, ∃ n, p.1 = Sum.inl n
theorem valV_none {kvs : List (Key × V)} {k : Key} (h : valV kvs k = none) : k ∉ kvs.map (·.1) := fun hm => by
  obtain ⟨p, hp, e⟩ := List.mem_map.mp hm
  unfold valV at h
  rw [Option.map_eq_none_iff, List.find?_eq_none] at h
  exact h p hp (by simp [e])
theorem putK_new {kvs : List (Key × V)} {k : Key} {v : V} (h : valV kvs k = none) : putK kvs k v = kvs ++ [(k, v)] := by
  unfold putK
  rw [if_neg]
  intro z
  obtain ⟨p, hp, e⟩ := List.any_eq_true.mp z
  exact valV_none h (List.mem_map.mpr ⟨p, hp, of_decide_eq_true e⟩)
theorem KeyI.put {kvs : List (Key × V)} {n : Int} {v : V} (h : KeyI kvs) (hn : valV kvs (.inl n) = none) : KeyI (putK kvs (.inl n) v) := by
  rw [putK_new hn]
  refine ⟨?_, fun p hp => ?_⟩
  · rw [List.map_append, List.nodup_append]
    refine ⟨h.1, by simp, fun a ha b hb e => ?_⟩
    rw [List.map_cons, List.map_nil, List.mem_singleton] at hb
    rw [e, hb] at ha
    exact valV_none hn ha
  · rcases List.mem_append.mp hp with q | q
    · exact h.2 p q
    · rw [List.mem_singleton.mp q]
      exact ⟨n, rfl⟩
theorem valV_put {kvs : List (Key × V)} {n : Int} {v : V} (hn : valV kvs (.inl n) = none) (m : Int) : valV (putK kvs (.inl n) v) (.inl m) = if m = n then some v else valV kvs (.inl m) := by
  rw [putK_new hn]
  unfold valV at hn ⊢
  rw [List.find?_append]
  by_cases e : m = n
  · subst e
    rw [if_pos rfl]
    have : kvs.find? (fun kv => decide (kv.1 = (Sum.inl m : Key))) = none := by simpa using hn
    rw [this]
    simp
  · rw [if_neg e]
    cases hf : kvs.find? (fun kv => decide (kv.1 = (Sum.inl m : Key))) with
    | some q => rfl
    | none =>
      have : ¬ (Sum.inl n : Key) = Sum.inl m := fun z => e (Sum.inl.inj z).symm
      simp [this]
end LL
set_option maxHeartbeats 4000000
/-! Readings told by what is true of what they come to. -/
namespace LL
open PySem PySem.Spec PyProof.Rows L2 Evl
abbrev VP := V → Hp → Prop
def Mon (R : VP) : Prop := ∀ v H H', Ex H H' → R v H → R v H'
def EvX (te : TE) (σ : L2.St) (H : Hp) (R : VP) : Prop := ∀ H1, Ex H H1 → ∀ Q : VK, (∀ v H2, Ex H1 H2 → R v H2 → Q v H2) → te σ H1 Q
abbrev All2 (Rs : List VP) (vs : List V) (H : Hp) : Prop := Paired (fun (R : VP) v => R v H) Rs vs
def EvXA (ta : TA) (σ : L2.St) (H : Hp) (Rs : List VP) : Prop := ∀ H1, Ex H H1 → ∀ Q : List V → Hp → Prop, (∀ vs H2, Ex H1 H2 → All2 Rs vs H2 → Q vs H2) → ta σ H1 Q
def Mons (Rs : List VP) : Prop := ∀ R ∈ Rs, Mon R
theorem All2.mono {Rs : List VP} (m : Mons Rs) {vs : List V} {H H' : Hp} (e : Ex H H') (h : All2 Rs vs H) : All2 Rs vs H' := by
  induction h with
  | nil => exact .nil
  | cons a b ih => exact .cons (m _ List.mem_cons_self _ _ _ e a) (ih fun R hR => m R (List.mem_cons_of_mem _ hR))
theorem All2.app {Rs Ss : List VP} {H : Hp} {vs us : List V} (h : All2 Rs vs H) (k : All2 Ss us H) : All2 (Rs ++ Ss) (vs ++ us) H := by
  induction h with
  | nil => exact k
  | cons a b ih => exact .cons a ih
theorem All2.len {Rs : List VP} {vs : List V} {H : Hp} (h : All2 Rs vs H) : Rs.length = vs.length := Paired.length h
def LstOf (Rs : List VP) : VP := fun v H => ∃ p vs, v = .ref p ∧ H p = some (.lst vs) ∧ All2 Rs vs H
def TupOf (Rs : List VP) : VP := fun v H => ∃ p vs, v = .ref p ∧ H p = some (.tup vs) ∧ All2 Rs vs H
theorem LstOf.mon {Rs : List VP} (m : Mons Rs) : Mon (LstOf Rs) := fun v H H' e ⟨p, vs, h1, h2, h3⟩ => ⟨p, vs, h1, e _ _ h2, h3.mono m e⟩
theorem TupOf.mon {Rs : List VP} (m : Mons Rs) : Mon (TupOf Rs) := fun v H H' e ⟨p, vs, h1, h2, h3⟩ => ⟨p, vs, h1, e _ _ h2, h3.mono m e⟩
theorem mons_nil : Mons [] := fun _ h => nomatch h
theorem mons_cons {R : VP} {Rs : List VP} (h : Mon R) (hs : Mons Rs) : Mons (R :: Rs) := fun S hS => by
  rcases List.mem_cons.mp hS with e | e
  · rw [e]; exact h
  · exact hs S e
section
variable {K : PySem.W.Frag} {σ : L2.St} {H : Hp} {te ta tb tl : TE} {tr : TA} {R S : VP} {Rs Ss : List VP} {D : Ends} {tz : TS} {v : V} {j : Nat} {vs : List Nat}
theorem x_of (h : Ev te σ H v) : EvX te σ H (fun u _ => u = v) := fun H1 e Q q => h H1 e Q fun H2 e2 => q v H2 e2 rfl
theorem x_imp (h : EvX te σ H R) (k : ∀ v H', Ex H H' → R v H' → S v H') : EvX te σ H S := fun H1 e Q q => h H1 e Q fun v H2 e2 r => q v H2 e2 (k v H2 (e.trans e2) r)
theorem xa_nil : EvXA tNil σ H [] := fun H1 _ Q q => q [] H1 (Ex.refl H1) .nil
theorem xa_cons (m : Mon R) (h : EvX te σ H R) (hs : EvXA tr σ H Rs) : EvXA (tCons te tr) σ H (R :: Rs) := fun H1 e Q q =>
  h H1 e _ fun v H2 e2 r => hs H2 (e.trans e2) _ fun vs H3 e3 rs => q (v :: vs) H3 (e2.trans e3) (.cons (m _ _ _ e3 r) rs)
theorem x_lst (m : Mons Rs) (hl : Rs.length ≤ 100000) (h : EvXA tr σ H Rs) : EvX (tLst tr) σ H (LstOf Rs) := fun H1 e Q q =>
  h H1 e _ fun vs H2 e2 rs => ⟨sz_of (by rw [← rs.len]; exact hl), fun p hp => q _ _ (e2.trans (Ex.new hp)) ⟨p, vs, rfl, upd_same, rs.mono m (Ex.new hp)⟩⟩
theorem x_tup (m : Mons Rs) (hl : Rs.length ≤ 100000) (h : EvXA tr σ H Rs) : EvX (tTup tr) σ H (TupOf Rs) := fun H1 e Q q =>
  h H1 e _ fun vs H2 e2 rs => ⟨sz_of (by rw [← rs.len]; exact hl), fun p hp => q _ _ (e2.trans (Ex.new hp)) ⟨p, vs, rfl, upd_same, rs.mono m (Ex.new hp)⟩⟩
theorem q_asgX {i : Nat} (h : EvX te σ H R) (k : ∀ v H1, Ex H H1 → R v H1 → tz D (σ.set i (some v)) H1) : tSeq (tAsg te (gName i)) tz D σ H := h H (Ex.refl H) _ k
theorem s_retX (h : EvX te σ H R) (k : ∀ v H1, Ex H H1 → R v H1 → D.rt v H1) : tRet te D σ H := h H (Ex.refl H) _ k
theorem x_var {i : Nat} (m : Mon R) (h : σ[i]? = some (some v)) (r : R v H) : EvX (tVar i) σ H R := fun H1 e Q q => ⟨v, h, q v H1 (Ex.refl H1) (m _ _ _ e r)⟩
def MonT (R : VP) : Prop := ∀ v H H', TupEx H H' → R v H → R v H'
theorem All2.monT {Rs : List VP} (m : ∀ R ∈ Rs, MonT R) {vs : List V} {H H' : Hp} (e : TupEx H H') (h : All2 Rs vs H) : All2 Rs vs H' := by
  induction h with
  | nil => exact .nil
  | cons a b ih => exact .cons (m _ List.mem_cons_self _ _ _ e a) (ih fun R hR => m R (List.mem_cons_of_mem _ hR))
/-- a new list, turn by turn -/
def Cx_ (H : Hp) (Rs : List VP) (Dl : Addr) (i : Nat) (H' : Hp) : Prop := H Dl = none ∧ Ex H H' ∧ ∃ ys, H' Dl = some (.lst ys) ∧ All2 (Rs.take i) ys H'
theorem cx_turn {H H' : Hp} {Dl : Addr} {i : Nat} {σ2 : L2.St} (m : ∀ R ∈ Rs, MonT R) (p : Cx_ H Rs Dl i H') (hi : i < 50000) (hR : Rs[i]? = some R) (he : EvX te σ2 H R) :
    (tYes σ2 H' fun b H3 => if b = true then te σ2 H3 fun y H4 => ∃ acc, H4 Dl = some (.lst acc) ∧ acc.length < sizeLine ∧ Cx_ H Rs Dl (i + 1) (upd H4 Dl (.lst (acc ++ [y]))) else Cx_ H Rs Dl (i + 1) H3) := by
  obtain ⟨p1, p2, ys, p3, p4⟩ := p
  show te σ2 H' fun y H4 => ∃ acc, H4 Dl = some (.lst acc) ∧ acc.length < sizeLine ∧ Cx_ H Rs Dl (i + 1) (upd H4 Dl (.lst (acc ++ [y])))
  have mt : ∀ S ∈ Rs.take i, MonT S := fun S hS => m S (List.mem_of_mem_take hS)
  refine he H' p2 _ fun y H4 e4 ry => ⟨ys, e4 _ _ p3, ?_, p1, Ex.mut (p2.trans e4) p1, ys ++ [y], upd_same, ?_⟩
  · have := p4.len
    rw [List.length_take] at this
    exact sz_lt (by omega)
  · have t2 : TupEx H4 (upd H4 Dl (.lst (ys ++ [y]))) := TupEx.lst (e4 _ _ p3)
    have e : Rs.take (i + 1) = Rs.take i ++ [R] := by rw [List.take_succ, hR]; rfl
    rw [e]
    exact All2.app (All2.monT mt ((TupEx.of e4).trans t2) p4) (.cons (m R (List.mem_of_getElem? hR) _ _ _ t2 ry) .nil)
/-- [e for x in t], t a tuple | a list -/
theorem x_lcT {a : Addr} {xs : List V} (m : ∀ R ∈ Rs, MonT R) (h : Ev tl σ H (.ref a)) (hx : SqT K H a xs) (hl : Rs.length = xs.length) (hz : xs.length ≤ 40000) (hw : ∀ x, wipe ((wipe σ vs).set j (some x)) vs = wipe σ vs)
    (he : ∀ (i : Nat) (x : V) (R : VP) H1, Ex H H1 → xs[i]? = some x → Rs[i]? = some R → EvX te ((wipe σ vs).set j (some x)) H1 R) : EvX (tLc (iTup K tl) (gName j) tYes te vs) σ H (LstOf Rs) := fun H0 e Q q => h H0 e _ fun H1 e1 => ⟨a, rfl, ⟨xs, ex_t (e.trans e1) hx⟩, fun Dl hD =>
  lc_it (walk_tup (xs := xs)) (Cx_ H1 Rs Dl) ⟨hD, Ex.new hD, [], upd_same, .nil⟩ (fun i H' _ pv => ex_t ((e.trans e1).trans pv.2.1) hx) (fun i x H' H'' hi pv y => by
    obtain ⟨rfl, hi2⟩ := y
    have hr : Rs[i]? = some Rs[i] := List.getElem?_eq_getElem (by omega)
    exact ⟨hw x, cx_turn m pv (by omega) hr (he i x _ H1 (e.trans e1) hi2 hr)⟩) (fun H' pv => by
    obtain ⟨p1, p2, ys, p3, p4⟩ := pv
    rw [← hl, List.take_length] at p4
    exact q _ H' (e1.trans p2) ⟨Dl, ys, rfl, p3, p4⟩)⟩
theorem x_lcL {a : Addr} {xs : List V} (m : ∀ R ∈ Rs, MonT R) (h : Ev tl σ H (.ref a)) (hx : SqL K H a xs) (hl : Rs.length = xs.length) (hz : xs.length ≤ 40000) (hw : ∀ x, wipe ((wipe σ vs).set j (some x)) vs = wipe σ vs)
    (he : ∀ (i : Nat) (x : V) (R : VP) H1, Ex H H1 → xs[i]? = some x → Rs[i]? = some R → EvX te ((wipe σ vs).set j (some x)) H1 R) : EvX (tLc (iList K tl) (gName j) tYes te vs) σ H (LstOf Rs) := fun H0 e Q q => h H0 e _ fun H1 e1 => ⟨a, rfl, ⟨xs, ex_l (e.trans e1) hx⟩, fun Dl hD =>
  lc_it (walk_list (xs := xs)) (Cx_ H1 Rs Dl) ⟨hD, Ex.new hD, [], upd_same, .nil⟩ (fun i H' _ pv => ex_l ((e.trans e1).trans pv.2.1) hx) (fun i x H' H'' hi pv y => by
    obtain ⟨rfl, hi2⟩ := y
    have hr : Rs[i]? = some Rs[i] := List.getElem?_eq_getElem (by omega)
    exact ⟨hw x, cx_turn m pv (by omega) hr (he i x _ H1 (e.trans e1) hi2 hr)⟩) (fun H' pv => by
    obtain ⟨p1, p2, ys, p3, p4⟩ := pv
    rw [← hl, List.take_length] at p4
    exact q _ H' (e1.trans p2) ⟨Dl, ys, rfl, p3, p4⟩)⟩
/-- over a new tuple -/
theorem x_lcU {xs : List V} (m : ∀ R ∈ Rs, MonT R) (h : EvU tl σ H xs) (hl : Rs.length = xs.length) (hz : xs.length ≤ 40000) (hw : ∀ x, wipe ((wipe σ vs).set j (some x)) vs = wipe σ vs)
    (he : ∀ (i : Nat) (x : V) (R : VP) H1, Ex H H1 → xs[i]? = some x → Rs[i]? = some R → EvX te ((wipe σ vs).set j (some x)) H1 R) : EvX (tLc (iTup K tl) (gName j) tYes te vs) σ H (LstOf Rs) := fun H0 e Q q => h H0 e _ fun a H1 ha e1 hx => ⟨a, rfl, ⟨xs, st_of hx⟩, fun Dl hD =>
  lc_it (walk_tup (xs := xs)) (Cx_ H1 Rs Dl) ⟨hD, Ex.new hD, [], upd_same, .nil⟩ (fun i H' _ pv => st_of (pv.2.1 _ _ hx)) (fun i x H' H'' hi pv y => by
    obtain ⟨rfl, hi2⟩ := y
    have hr : Rs[i]? = some Rs[i] := List.getElem?_eq_getElem (by omega)
    exact ⟨hw x, cx_turn m pv (by omega) hr (he i x _ H1 (e.trans e1) hi2 hr)⟩) (fun H' pv => by
    obtain ⟨p1, p2, ys, p3, p4⟩ := pv
    rw [← hl, List.take_length] at p4
    exact q _ H' (e1.trans p2) ⟨Dl, ys, rfl, p3, p4⟩)⟩
/-- things by what they are -/
abbrev IsT (t : Thg) : VP := fun v H => Tv H v t
theorem monT_tv {t : Thg} : MonT (IsT t) := fun _ _ _ e h => h.mono e
theorem tvs_all {ts : List Thg} {vs : List V} {H : Hp} (h : All2 (ts.map IsT) vs H) : Tvs H vs ts := by
  induction ts generalizing vs with
  | nil => cases h; exact .nil
  | cons t ts ih =>
    cases h with
    | cons a b => exact .cons a (ih b)
end
end LL
set_option maxHeartbeats 16000000
namespace K03
open PySem PySem.Spec PyProof.Rows L2 Evl LL
theorem erase_perm {α : Type} : ∀ (ys : List α) (j : Nat) (h : j < ys.length), (ys[j] :: ys.eraseIdx j).Perm ys
  | y :: ys, 0, _ => List.Perm.refl _
  | y :: ys, j + 1, h => (List.Perm.swap y _ _).trans ((erase_perm ys j (by simpa using h)).cons y)
def spMixed : Sp := fun vs H Q _ => ∃ (l c p : Addr) (xs : List V), vs = [.ref l, .ref p] ∧ p ≠ l ∧ H p = some (.lst xs) ∧ xs.length ≤ 1000 ∧ HandC H l c ∧ ∀ q ys H', ys.Perm xs → H q = none → Exl l H H' → HandC H' l c → H' q = some (.lst ys) → Q (.ref q) H'
structure Fx (P : Program) (w : World) (K : PySem.W.Frag) (mg : Str → Option Value) (base : Heap) : Prop where
  len : mg "len" = none
  list : mg "list" = none
  h_law_draw : Has P w K mg base CX0 "_law_draw" 1 ["hand", "many"] spDraw
section
variable {P : Program} {w : World} {K : PySem.W.Frag} {mg : Str → Option Value} {base : Heap} {f : Addr} {fd : FuncData}
theorem scMixed : FnScope ["hand", "things", "left", "found"] ["hand", "things"] (defScope (top 16)) := ⟨rfl, rfl, rfl, by decide +kernel, rfl, by decide +kernel, by decide +kernel⟩
theorem ok_mixed (F : FnT K "_law_mixed" (top 16) f fd) (T : Fx P w K mg base) : FnOk P w K mg base CX0 2 f fd ["hand", "things"] spMixed := by
  have sc := scMixed
  refine F.ok scMixed (fun vs H Q E h => ?_) (fun cdv A outer s H vs Q E hr h => ?_)
  · obtain ⟨_, _, _, _, rfl, _⟩ := h
    rfl
  refine ⟨_, PSs.nox (pss_cons (ps_par (i := 2) (j := 3) (by rfl) sc.nd rfl rfl (by decide) rfl rfl (pa_cons (pe_callTy call_list_of (by rfl) T.list (by decide +kernel) (pa_cons (pv 1) pa_nil)) (pa_cons (pe_lst pa_nil) pa_nil)) (by rfl))
      (pss_cons (ps_while PassesOwn.never (pt_cmpR op_gt (pe_callB call_len (by rfl) T.len (by decide +kernel) (pa_cons (pv 2) pa_nil)) pe_int (nomark _)) (pss_one (ps_expr (pe_bm PySem.F.plainAttrs_list PySem.F.slot_list_append PySem.F.type_list_append mt_append (pv 3) (pa_cons (pe_bm PySem.F.plainAttrs_list PySem.F.slot_list_pop PySem.F.type_list_pop mt_popAt (pv 2) (pa_cons (pe_callH T.h_law_draw hr pass0 (pa_cons (pv 0) (pa_cons (pe_callB call_len (by rfl) T.len (by decide +kernel) (pa_cons (pv 2) pa_nil)) pa_nil))) pa_nil)) pa_nil)))))
      (pss_one (ps_ret (pv 3))))), ?_⟩
  obtain ⟨l, c, p, xs, rfl, pl, hp, hz, hh, k⟩ := h
  refine ⟨_, rfl, p, xs, rfl, .inl (sq_of hp), fun td htd => ⟨by show 0 ≤ sizeLine; decide, fun q hq => ⟨_, _, rfl, ?_⟩⟩⟩
  have ntq : H q = none := fresh_back (Ex.new htd) hq
  have tq : td ≠ q := fun e => by
    rw [← e, upd_same] at hq
    cases hq
  obtain ⟨tl, tc⟩ := hh.new htd
  obtain ⟨ql, qc⟩ := hh.new ntq
  have own : ∀ {H1 : Hp} {r : Addr} {o : HO}, Exl l H H1 → H r = none → Exl l H (upd H1 r o) := fun e n a u na ha => by
    rw [upd_ne (fun z => by rw [z, n] at ha; cases ha)]
    exact e a u na ha
  refine q_while (fun m σ' H' => ∃ ys zs, σ' = [some (.ref l), some (.ref p), some (.ref td), some (.ref q)] ∧ H' td = some (.lst ys) ∧ H' q = some (.lst zs) ∧ (ys ++ zs).Perm xs ∧ Exl l H H' ∧ HandC H' l c ∧ m = ys.length) xs.length ?_ ?_
  · exact ⟨xs, [], rfl, by rw [upd_ne tq, upd_same], upd_same, by rw [List.append_nil], own (own (Exl.refl l H) htd) ntq, (hh.own tl tc).own ql qc, rfl⟩
  · rintro m σ' H' ⟨ys, zs, rfl, h1, h2, pm, ex, hh', rfl⟩
    have ln : ys.length + zs.length = xs.length := by rw [← List.length_append]; exact pm.length_eq
    refine ⟨decide ((0 : Int) < (ys.length : Nat)), et_test (ev_op (ev_cb (z := .int (ys.length : Nat)) (ea_cons (ev_var rfl) ea_nil) fun H2 e Q q => ⟨_, _, rfl, .inl ⟨_, sq_of (e _ _ h1), rfl⟩, q H2 (Ex.refl H2)⟩) ev_c rv_I0), fun hb2 H3 e4 => ?_, fun hb2 H3 e4 => ?_⟩
    · have y0 : 0 < ys.length := by simpa using hb2
      refine ⟨fun σ2 H2 => ∃ m', m' < ys.length ∧ ∃ ys zs, σ2 = [some (.ref l), some (.ref p), some (.ref td), some (.ref q)] ∧ H2 td = some (.lst ys) ∧ H2 q = some (.lst zs) ∧ (ys ++ zs).Perm xs ∧ Exl l H H2 ∧ HandC H2 l c ∧ m' = ys.length, fun _ _ z => z, ?_⟩
      refine ⟨_, rfl, .inl ⟨rfl, _, sq_of (e4 _ _ h2)⟩, _, rfl, .inl ⟨rfl, _, sq_of (e4 _ _ h1)⟩, _, rfl, _, rfl, _, ys.length, rfl, .inl ⟨_, sq_of (e4 _ _ h1), rfl⟩, l, c, (ys.length : Nat), rfl, by omega, by omega, hh'.mono e4, fun f H5 f0 f1 e5 hh5 => ?_⟩
      obtain ⟨j, rfl⟩ : ∃ j : Nat, f = (j : Int) := ⟨f.toNat, by omega⟩
      have hj : j < ys.length := by omega
      have g1 := e5 _ _ tl (e4 _ _ h1)
      have g2 := e5 _ _ ql (e4 _ _ h2)
      have sj : seqIndex? (j : Int) ys.length = some j := by
        have : ¬ ((j : Int) < 0) := by omega
        simp [seqIndex?, this, hj]
      refine ⟨td, ys, (j : Int), j, ys[j], rfl, rfl, g1, by omega, by omega, sj, List.getElem?_eq_getElem hj, ?_⟩
      refine ⟨q, zs, ys[j], rfl, rfl, by rw [upd_ne (Ne.symm tq)]; exact g2, sz_lt (by omega), ?_⟩
      refine ⟨ys.length - 1, by omega, ys.eraseIdx j, zs ++ [ys[j]], rfl, by rw [upd_ne tq, upd_same], upd_same, ?_, own (own ((ex.trans (Exl.of e4)).trans e5) htd) ntq, (hh5.own tl tc).own ql qc, by rw [List.length_eraseIdx, if_pos hj]⟩
      refine List.Perm.trans ?_ pm
      rw [← List.append_assoc]
      refine (List.perm_append_comm).trans ?_
      rw [List.singleton_append, ← List.cons_append]
      exact (erase_perm ys j hj).append_right zs
    · have e0 : ys = [] := by
        cases ys with
        | nil => rfl
        | cons _ _ => simp at hb2
      subst e0
      exact s_ret (ev_var rfl) fun H5 e5 => k q zs H5 pm ntq ((ex.trans (Exl.of e4)).trans (Exl.of e5)) ((hh'.mono e4).mono e5) (e5 _ _ (e4 _ _ h2))
end
end K03
set_option maxHeartbeats 4000000
/-! Things of one text are one thing. -/
namespace LL
open PySem PySem.Spec PyProof.Rows L2 Evl
mutual
def Thg.dT : Thg → PyData
  | .num i => .int i
  | .word s => .str s
  | .node h xs => .tuple (.str h :: Thg.dTs xs)
def Thg.dTs : List Thg → List PyData
  | [] => []
  | x :: xs => x.dT :: Thg.dTs xs
end
/-- a word whose repr is itself between quotes -/
def plainW (s : Str) : Bool := decide ((reprText s).cps.toList = 39 :: (s.cps.toList ++ [39])) && !(s.cps.toList.contains 39)
mutual
def Thg.Pl : Thg → Prop
  | .num _ => True
  | .word s => plainW s = true
  | .node h xs => plainW h = true ∧ Thg.PlL xs
def Thg.PlL : List Thg → Prop
  | [] => True
  | x :: xs => x.Pl ∧ Thg.PlL xs
end
def Thg.tx (t : Thg) : List Nat := t.dT.shown.cps.toList
def bodyT : List Thg → List Nat
  | [] => [41]
  | x :: xs => 44 :: 32 :: (x.tx ++ bodyT xs)
theorem join_signs (x : Str) : ∀ ts : List Str, (Str.join ", " (x :: ts)).cps.toList = x.cps.toList ++ ts.flatMap fun t => 44 :: 32 :: t.cps.toList
  | [] => by simp [join_one]
  | t :: ts => by
    rw [join_cons_cons, cps_toList_append, cps_toList_append, join_signs t ts, signs_sep]
    simp
theorem body_eq : ∀ xs : List Thg, ((PyData.shownAll (Thg.dTs xs)).flatMap fun t => 44 :: 32 :: t.cps.toList) ++ [41] = bodyT xs
  | [] => by
    simp only [Thg.dTs, PyData.shownAll_nil]
    rfl
  | x :: xs => by
    simp only [Thg.dTs, PyData.shownAll_cons, List.flatMap_cons, bodyT]
    rw [List.append_assoc, body_eq xs]
    rfl
theorem dTs_len : ∀ xs : List Thg, (Thg.dTs xs).length = xs.length
  | [] => rfl
  | _ :: xs => congrArg (· + 1) (dTs_len xs)
theorem tx_node (h : Str) (xs : List Thg) : (Thg.node h xs).tx = 40 :: ((reprText h).cps.toList ++ (if xs = [] then [44, 41] else bodyT xs)) := by
  unfold Thg.tx
  simp only [Thg.dT]
  rw [PyData.shown_tuple, cps_toList_append, cps_toList_append, PyData.shownAll_cons, join_signs, PyData.shown_str, signs_lparen]
  cases xs with
  | nil =>
    simp only [Thg.dTs, PyData.shownAll_nil]
    have e : (Str.ofString ",)").cps.toList = [44, 41] := by decide
    simp [e]
  | cons x xs =>
    have e : (Str.ofString ")").cps.toList = [41] := by decide
    have ne : ¬ ((PyData.str h :: Thg.dTs (x :: xs)).length == 1) = true := by
      rw [List.length_cons, dTs_len]
      simp
    rw [if_neg ne, if_neg (by simp), ← body_eq (x :: xs)]
    show [40] ++ _ ++ (Str.ofString ")").cps.toList = _
    rw [e]
    simp
def EndT (y : List Nat) : Prop := ∀ c r, y = c :: r → c = 44 ∨ c = 41
theorem end_body (xs : List Thg) (y : List Nat) : EndT (bodyT xs ++ y) := by
  intro c r e
  cases xs with
  | nil =>
    have e : 41 :: y = c :: r := e
    cases e
    exact .inr rfl
  | cons x xs =>
    have e : 44 :: _ = c :: r := e
    cases e
    exact .inl rfl
theorem split_end : ∀ (s t y z : List Nat), (∀ c ∈ s, c ≠ 44 ∧ c ≠ 41) → (∀ c ∈ t, c ≠ 44 ∧ c ≠ 41) → EndT y → EndT z → s ++ y = t ++ z → s = t ∧ y = z
  | [], [], y, z, _, _, _, _, e => ⟨rfl, e⟩
  | [], c :: t, y, z, _, h, hy, _, e => by
    have := hy c (t ++ z) e
    have q := h c List.mem_cons_self
    omega
  | c :: s, [], y, z, h, _, _, hz, e => by
    have := hz c (s ++ y) e.symm
    have q := h c List.mem_cons_self
    omega
  | c :: s, d :: t, y, z, h, k, hy, hz, e => by
    have e1 : c = d := (List.cons.inj e).1
    obtain ⟨e2, e3⟩ := split_end s t y z (fun a ha => h a (List.mem_cons_of_mem _ ha)) (fun a ha => k a (List.mem_cons_of_mem _ ha)) hy hz (List.cons.inj e).2
    exact ⟨by rw [e1, e2], e3⟩
theorem split_q : ∀ (s t y z : List Nat), 39 ∉ s → 39 ∉ t → s ++ 39 :: y = t ++ 39 :: z → s = t ∧ y = z
  | [], [], y, z, _, _, e => ⟨rfl, (List.cons.inj e).2⟩
  | [], c :: t, y, z, _, h, e => by
    have e1 : 39 = c := (List.cons.inj e).1
    exact absurd (by rw [e1]; exact List.mem_cons_self) h
  | c :: s, [], y, z, h, _, e => by
    have e1 : c = 39 := (List.cons.inj e).1
    exact absurd (by rw [e1]; exact List.mem_cons_self) h
  | c :: s, d :: t, y, z, h, k, e => by
    have e1 : c = d := (List.cons.inj e).1
    obtain ⟨e2, e3⟩ := split_q s t y z (fun q => h (List.mem_cons_of_mem _ q)) (fun q => k (List.mem_cons_of_mem _ q)) (List.cons.inj e).2
    exact ⟨by rw [e1, e2], e3⟩
theorem plainW_at {s : Str} (h : plainW s = true) : (reprText s).cps.toList = 39 :: (s.cps.toList ++ [39]) ∧ 39 ∉ s.cps.toList := by
  obtain ⟨h1, h2⟩ := Bool.and_eq_true_iff.mp h
  exact ⟨of_decide_eq_true h1, by simpa using h2⟩
theorem str_ext {a b : Str} (h : a.cps.toList = b.cps.toList) : a = b := by
  obtain ⟨a⟩ := a
  obtain ⟨b⟩ := b
  exact congrArg Str.mk (Array.toList_inj.mp h)
theorem int_ext {i j : Int} (h : (PyData.int i).shown.cps.toList = (PyData.int j).shown.cps.toList) : i = j := by
  rw [PyData.shown_int, PyData.shown_int, signs_ofString, signs_ofString] at h
  have inj : ∀ {xs ys : List Char}, xs.map Char.toNat = ys.map Char.toNat → xs = ys := by
    intro xs
    induction xs with
    | nil => intro ys h; cases ys <;> simp at h ⊢
    | cons x xs ih =>
      intro ys h
      cases ys with
      | nil => simp at h
      | cons y ys =>
        simp only [List.map_cons, List.cons.injEq] at h
        have e1 : x = y := Char.ext (UInt32.toNat_inj.mp h.1)
        rw [e1, ih h.2]
  have e := inj h
  have e2 : toString i = toString j := String.toList_inj.mp e
  rw [Int.toString_eq_repr, Int.toString_eq_repr] at e2
  exact Int.repr_inj.mp e2
theorem int_ends (i : Int) : ∀ c ∈ (PyData.int i).shown.cps.toList, c ≠ 44 ∧ c ≠ 41 := fun c hc => ⟨fun e => shown_int_free' (k := 44) (by omega) i (by rw [← e]; exact hc), fun e => shown_int_free' (k := 41) (by omega) i (by rw [← e]; exact hc)⟩
theorem int_head {i : Int} {y r : List Nat} {c : Nat} (hc : c ≠ 45 ∧ (c < 48 ∨ 57 < c)) (h44 : c ≠ 44 ∧ c ≠ 41) (hy : EndT y) (e : (PyData.int i).shown.cps.toList ++ y = c :: r) : False := by
  cases hs : (PyData.int i).shown.cps.toList with
  | nil =>
    rw [hs] at e
    have := hy c r e
    omega
  | cons d s =>
    rw [hs] at e
    have e1 : d = c := (List.cons.inj e).1
    exact shown_int_free' hc i (by rw [hs, e1]; exact List.mem_cons_self)
mutual
theorem tx_pre : ∀ (a b : Thg) (y z : List Nat), a.Pl → b.Pl → EndT y → EndT z → a.tx ++ y = b.tx ++ z → a = b ∧ y = z
  | .num i, .num j, y, z, _, _, hy, hz, e => by
    obtain ⟨e1, e2⟩ := split_end _ _ y z (int_ends i) (int_ends j) hy hz e
    exact ⟨by rw [int_ext e1], e2⟩
  | .num i, .word s, y, z, _, hb, hy, hz, e => by
    have e : (PyData.int i).shown.cps.toList ++ y = (PyData.str s).shown.cps.toList ++ z := e
    rw [PyData.shown_str, (plainW_at hb).1] at e
    exact (int_head (by omega) (by omega) hy e).elim
  | .num i, .node h xs, y, z, _, hb, hy, hz, e => by
    rw [tx_node] at e
    exact (int_head (by omega) (by omega) hy e).elim
  | .word s, .num j, y, z, ha, _, hy, hz, e => by
    have e : (PyData.str s).shown.cps.toList ++ y = (PyData.int j).shown.cps.toList ++ z := e
    rw [PyData.shown_str, (plainW_at ha).1] at e
    exact (int_head (by omega) (by omega) hz e.symm).elim
  | .word s, .word t, y, z, ha, hb, hy, hz, e => by
    have e : (PyData.str s).shown.cps.toList ++ y = (PyData.str t).shown.cps.toList ++ z := e
    rw [PyData.shown_str, PyData.shown_str, (plainW_at ha).1, (plainW_at hb).1] at e
    have e : (s.cps.toList ++ [39]) ++ y = (t.cps.toList ++ [39]) ++ z := (List.cons.inj e).2
    rw [List.append_assoc, List.append_assoc] at e
    obtain ⟨e1, e2⟩ := split_q _ _ y z (plainW_at ha).2 (plainW_at hb).2 e
    exact ⟨by rw [str_ext e1], e2⟩
  | .word s, .node h xs, y, z, ha, hb, hy, hz, e => by
    have e : (PyData.str s).shown.cps.toList ++ y = (Thg.node h xs).tx ++ z := e
    rw [PyData.shown_str, (plainW_at ha).1, tx_node] at e
    have := (List.cons.inj e).1
    omega
  | .node h xs, .num j, y, z, ha, _, hy, hz, e => by
    rw [tx_node] at e
    exact (int_head (by omega) (by omega) hz e.symm).elim
  | .node h xs, .word s, y, z, ha, hb, hy, hz, e => by
    have e : (Thg.node h xs).tx ++ y = (PyData.str s).shown.cps.toList ++ z := e
    rw [PyData.shown_str, (plainW_at hb).1, tx_node] at e
    have := (List.cons.inj e).1
    omega
  | .node h xs, .node k ys, y, z, ha, hb, hy, hz, e => by
    rw [tx_node, tx_node, (plainW_at ha.1).1, (plainW_at hb.1).1] at e
    have e := (List.cons.inj e).2
    simp only [List.cons_append, List.append_assoc] at e
    have e := (List.cons.inj e).2
    have e : (h.cps.toList ++ 39 :: (if xs = [] then [44, 41] else bodyT xs)) ++ y = (k.cps.toList ++ 39 :: (if ys = [] then [44, 41] else bodyT ys)) ++ z := e
    rw [List.append_assoc, List.append_assoc] at e
    obtain ⟨e1, e2⟩ := split_q _ _ _ _ (plainW_at ha.1).2 (plainW_at hb.1).2 e
    have e2 : (if xs = [] then [44, 41] else bodyT xs) ++ y = (if ys = [] then [44, 41] else bodyT ys) ++ z := e2
    rw [str_ext e1]
    cases xs with
    | nil =>
      cases ys with
      | nil =>
        rw [if_pos rfl] at e2
        exact ⟨rfl, (List.cons.inj (List.cons.inj e2).2).2⟩
      | cons b bs =>
        rw [if_pos rfl, if_neg (by simp)] at e2
        have := (List.cons.inj (List.cons.inj e2).2).1
        omega
    | cons a as =>
      cases ys with
      | nil =>
        rw [if_pos rfl, if_neg (by simp)] at e2
        have := (List.cons.inj (List.cons.inj e2).2).1
        omega
      | cons b bs =>
        rw [if_neg (by simp), if_neg (by simp)] at e2
        obtain ⟨e3, e4⟩ := body_pre (a :: as) (b :: bs) y z ha.2 hb.2 e2
        exact ⟨by rw [e3], e4⟩
theorem body_pre : ∀ (xs ys : List Thg) (y z : List Nat), Thg.PlL xs → Thg.PlL ys → bodyT xs ++ y = bodyT ys ++ z → xs = ys ∧ y = z
  | [], [], y, z, _, _, e => ⟨rfl, (List.cons.inj e).2⟩
  | [], b :: bs, y, z, _, _, e => by
    have := (List.cons.inj e).1
    omega
  | a :: as, [], y, z, _, _, e => by
    have := (List.cons.inj e).1
    omega
  | a :: as, b :: bs, y, z, ha, hb, e => by
    have e : (a.tx ++ bodyT as) ++ y = (b.tx ++ bodyT bs) ++ z := (List.cons.inj (List.cons.inj e).2).2
    rw [List.append_assoc, List.append_assoc] at e
    obtain ⟨e1, e2⟩ := tx_pre a b _ _ ha.1 hb.1 (end_body as y) (end_body bs z) e
    obtain ⟨e3, e4⟩ := body_pre as bs y z ha.2 hb.2 e2
    exact ⟨by rw [e1, e3], e4⟩
end
/-- one text, one thing -/
theorem Thg.tx_inj {a b : Thg} (ha : a.Pl) (hb : b.Pl) (h : a.dT.shown = b.dT.shown) : a = b :=
  (tx_pre a b [] [] ha hb nofun nofun (by show a.tx ++ [] = b.tx ++ []; unfold Thg.tx; rw [h])).1
end LL
set_option maxHeartbeats 4000000
/-! How deep a datum is, and how long its text. -/
namespace LL
open PySem PySem.Spec PyProof.Rows L2
structure Lim (n k : Nat) (d : PyData) : Prop where
  sh : d.showable = true
  dp : d.depth ≤ n
  ln : d.shown.length ≤ k
theorem Lim.mono {n k n' k' : Nat} {d : PyData} (h : Lim n k d) (h1 : n ≤ n') (h2 : k ≤ k') : Lim n' k' d := ⟨h.sh, Nat.le_trans h.dp h1, Nat.le_trans h.ln h2⟩
theorem slen (a b : Str) : (a ++ b).length = a.length + b.length := by
  first | exact PySem.StrLaws.length_append a b | exact Str.length_append a b
theorem join_len {k : Nat} : ∀ {ts : List Str}, (∀ t ∈ ts, t.length ≤ k) → (Str.join ", " ts).length ≤ (k + 2) * ts.length
  | [], _ => by
    have e : (Str.join ", " []).length = 0 := by decide
    omega
  | [x], h => by
    have := h x List.mem_cons_self
    show x.length ≤ _
    simp only [List.length_cons, List.length_nil]
    omega
  | x :: y :: r, h => by
    have h1 := h x List.mem_cons_self
    have h2 := join_len (ts := y :: r) fun t ht => h t (List.mem_cons_of_mem _ ht)
    show (x ++ (", " : Str) ++ Str.join ", " (y :: r)).length ≤ _
    rw [slen, slen]
    have e : (", " : Str).length = 2 := by decide
    rw [e, List.length_cons, Nat.mul_succ]
    omega
theorem shownAll_mem {k : Nat} : ∀ {xs : List PyData}, (∀ x ∈ xs, x.shown.length ≤ k) → ∀ t ∈ PyData.shownAll xs, t.length ≤ k
  | [], _, t, ht => by
    rw [PyData.shownAll_nil] at ht
    cases ht
  | x :: xs, h, t, ht => by
    rw [PyData.shownAll_cons] at ht
    rcases List.mem_cons.mp ht with e | e
    · rw [e]
      exact h x List.mem_cons_self
    · exact shownAll_mem (fun y hy => h y (List.mem_cons_of_mem _ hy)) t e
theorem showAll {xs : List PyData} (h : ∀ x ∈ xs, PyData.showable x = true) : PyData.showableAll xs = true := by
  induction xs with
  | nil => simp only [PyData.showableAll]
  | cons x xs ih =>
    simp only [PyData.showableAll, Bool.and_eq_true]
    exact ⟨h x List.mem_cons_self, ih fun y hy => h y (List.mem_cons_of_mem _ hy)⟩
theorem depAll {n : Nat} {xs : List PyData} (h : ∀ x ∈ xs, PyData.depth x ≤ n) : PyData.depthAll xs ≤ n := by
  induction xs with
  | nil => simp only [PyData.depthAll]; omega
  | cons x xs ih =>
    simp only [PyData.depthAll]
    have h1 := h x List.mem_cons_self
    have h2 := ih fun y hy => h y (List.mem_cons_of_mem _ hy)
    omega
theorem Lim.list {n k : Nat} {xs : List PyData} (h : ∀ x ∈ xs, Lim n k x) : Lim (n + 1) ((k + 2) * xs.length + 2) (.list xs) := by
  refine ⟨by simp only [PyData.showable]; exact showAll fun x hx => (h x hx).sh, by simp only [PyData.depth]; exact Nat.succ_le_succ (depAll fun x hx => (h x hx).dp), ?_⟩
  rw [PyData.shown_list, slen, slen]
  have e1 : ("[" : Str).length = 1 := by decide
  have e2 : ("]" : Str).length = 1 := by decide
  have e3 := join_len (shownAll_mem fun x hx => (h x hx).ln)
  rw [PyData.shownAll_length] at e3
  rw [e1, e2]
  omega
theorem Lim.tuple {n k : Nat} {xs : List PyData} (h : ∀ x ∈ xs, Lim n k x) : Lim (n + 1) ((k + 2) * xs.length + 3) (.tuple xs) := by
  refine ⟨by simp only [PyData.showable]; exact showAll fun x hx => (h x hx).sh, by simp only [PyData.depth]; exact Nat.succ_le_succ (depAll fun x hx => (h x hx).dp), ?_⟩
  rw [PyData.shown_tuple, slen, slen]
  have e1 : ("(" : Str).length = 1 := by decide
  have e2 : (Str.ofString (if (xs.length == 1) = true then ",)" else ")" : String)).length ≤ 2 := by
    split <;> decide
  have e3 := join_len (shownAll_mem fun x hx => (h x hx).ln)
  rw [PyData.shownAll_length] at e3
  rw [e1]
  omega
theorem Lim.dict0 : Lim 1 2 (.dict []) := ⟨by simp only [PyData.showable, PyData.showableKv], by simp only [PyData.depth, PyData.depthKv]; omega, by
  rw [PyData.shown_dict, PyData.shownKv_nil]
  decide⟩
theorem Lim.dict1 {n i j : Nat} {k v : PyData} (hk : Lim n i k) (hv : Lim n j v) : Lim (n + 1) (i + j + 4) (.dict [(k, v)]) := by
  refine ⟨by simp only [PyData.showable, PyData.showableKv, hk.sh, hv.sh, Bool.and_self], by simp only [PyData.depth, PyData.depthKv]; have := hk.dp; have := hv.dp; omega, ?_⟩
  rw [PyData.shown_dict, PyData.shownKv_cons, PyData.shownKv_nil, slen, slen]
  have e1 : ("{" : Str).length = 1 := by decide
  have e2 : ("}" : Str).length = 1 := by decide
  have e4 : (": " : Str).length = 2 := by decide
  rw [e1, e2]
  show 1 + (k.shown ++ (": " : Str) ++ v.shown).length + 1 ≤ _
  rw [slen, slen, e4]
  have := hk.ln
  have := hv.ln
  omega
theorem Lim.non : Lim 0 4 .none := ⟨by simp only [PyData.showable], by simp only [PyData.depth]; omega, by rw [PyData.shown_none]; decide⟩
theorem Lim.bool (b : Bool) : Lim 0 5 (.bool b) := ⟨by simp only [PyData.showable], by simp only [PyData.depth]; omega, by rw [PyData.shown_bool]; cases b <;> decide⟩
theorem Lim.int {i : Int} {k : Nat} (hk : 0 < k) (h : i.natAbs < 10 ^ k) (hl : i.natAbs.log2 < 1920) : Lim 0 (k + 1) (.int i) := by
  refine ⟨by simp only [PyData.showable]; exact decide_eq_true hl, by simp only [PyData.depth]; omega, ?_⟩
  rw [PyData.shown_int]
  have e := int_text_length_le10 hk h
  show (Str.ofString (toString i)).length ≤ _
  rw [PySem.ofString_length]
  exact e
theorem Lim.str {x : Str} {k : Nat} (h : (reprText x).length ≤ k) : Lim 0 k (.str x) := ⟨by simp only [PyData.showable], by simp only [PyData.depth]; omega, by rw [PyData.shown_str]; exact h⟩
theorem Lim.pair {n i j : Nat} {a b : PyData} (ha : Lim n i a) (hb : Lim n j b) : Lim (n + 1) (i + j + 4) (.tuple [a, b]) := by
  refine ⟨by simp only [PyData.showable, PyData.showableAll, ha.sh, hb.sh, Bool.and_self], by simp only [PyData.depth, PyData.depthAll]; have := ha.dp; have := hb.dp; omega, ?_⟩
  rw [PyData.shown_tuple, PyData.shownAll_cons, PyData.shownAll_cons, PyData.shownAll_nil, slen, slen]
  have e1 : ("(" : Str).length = 1 := by decide
  have e2 : (Str.ofString (if ([a, b].length == 1) = true then ",)" else ")" : String)).length = 1 := by
    show (Str.ofString ")").length = 1; decide
  have e4 : (", " : Str).length = 2 := by decide
  rw [e1, e2]
  show 1 + (a.shown ++ (", " : Str) ++ b.shown).length + 1 ≤ _
  rw [slen, slen, e4]
  have := ha.ln
  have := hb.ln
  omega
end LL
set_option maxHeartbeats 4000000
/-! repr of any datum, 250 deep; the text of a thing. -/
namespace LL
open PySem PySem.Spec PyProof.Rows L2 Evl
def notNB : PyData → Bool
  | .none => false
  | .bool _ => false
  | _ => true
def rReprD : List V → Hp → VK → Prop := fun xs H Q => ∃ (l : Addr) (v : V) (d : PyData), xs = [v] ∧ Dz l H v d ∧ notNB d = true ∧ d.showable = true ∧ d.depth ≤ 250 ∧ d.shown.length ≤ sizeLine ∧ Q (.str d.shown) H
theorem call_repr_ref {X : Cx} {l : Addr} (y : Sys X.K) (hg : X.A.guards = some []) (hu : X.A.units + 252 < cLine) : CallR X (.builtin "repr") (fun xs H Q => ∃ (a : Addr) (d : PyData), xs = [.ref a] ∧ Dz l H (.ref a) d ∧ d.showable = true ∧ d.depth ≤ 250 ∧ d.shown.length ≤ sizeLine ∧ Q (.str d.shown) H) := by
  intro pins s σ H xs us Q I r h
  obtain ⟨a, d, rfl, hd, hs, hp, hz, q⟩ := h
  obtain ⟨u, rfl, r1⟩ := vals1 r
  cases (show u = Value.ref a from r1)
  obtain ⟨as, rd, ns⟩ := hd.reads y I rfl
  exact repr_of_reads' rd hs (fun _ => ns) hg (by omega) (fun _ _ e => e) (fun h' u tk k => ⟨.str d.shown, H, I.kept (t' := tk) k, ⟨u, rfl⟩, q⟩) hz
theorem call_repr_str {X : Cx} : CallR X (.builtin "repr") (fun xs H Q => ∃ x, xs = [.str x] ∧ (reprText x).length ≤ sizeLine ∧ Q (.str (reprText x)) H) := by
  intro pins s σ H xs us Q I r h
  obtain ⟨x, rfl, hz, q⟩ := h
  obtain ⟨u, rfl, t, rfl⟩ := vals1 r
  exact call_repr_gives (typeIs_str s x t) F.slot_str_repr F.entry_str_repr (F.args_str_repr_1 _) (gives_str_repr x t) ⟨.str _, H, I.tok _, ⟨_, rfl⟩, q⟩ rfl hz
theorem call_reprD {X : Cx} (y : Sys X.K) (hg : X.A.guards = some []) (hu : X.A.units + 252 < cLine) : CallR X (.builtin "repr") rReprD := by
  intro pins s σ H xs us Q I r h
  obtain ⟨l, v, d, rfl, hd, hn, hs, hp, hz, q⟩ := h
  cases hd with
  | non => cases hn
  | bl b => cases hn
  | int i => exact SkE.call_repr_int pins s σ H _ us Q I r ⟨i, rfl, by simpa [PyData.showable] using hs, by rw [PyData.shown_int] at q; exact q⟩
  | str x => exact call_repr_str pins s σ H _ us Q I r ⟨x, rfl, by rw [PyData.shown_str] at hz; exact hz, by rw [PyData.shown_str] at q; exact q⟩
  | lst n h k => exact call_repr_ref y hg hu pins s σ H _ us Q I r ⟨_, _, rfl, .lst n h k, hs, hp, hz, q⟩
  | tup n h k => exact call_repr_ref y hg hu pins s σ H _ us Q I r ⟨_, _, rfl, .tup n h k, hs, hp, hz, q⟩
  | dic n h k => exact call_repr_ref y hg hu pins s σ H _ us Q I r ⟨_, _, rfl, .dic n h k, hs, hp, hz, q⟩
  | dit n h k => exact call_repr_ref y hg hu pins s σ H _ us Q I r ⟨_, _, rfl, .dit n h k, hs, hp, hz, q⟩
mutual
theorem Tv.dz {l : Addr} {H : Hp} (hl : ∀ xs, H l ≠ some (.tup xs)) : ∀ {v : V} {t : Thg}, Tv H v t → Dz l H v t.dT
  | _, _, .num i => .int i
  | _, _, .word s => .str s
  | _, _, .node h hs _ => .tup (fun e => hl _ (by rw [← e]; exact h)) h (.cons (.str _) (Tvs.dz hl hs))
theorem Tvs.dz {l : Addr} {H : Hp} (hl : ∀ xs, H l ≠ some (.tup xs)) : ∀ {vs : List V} {ts : List Thg}, Tvs H vs ts → Dzs l H vs (Thg.dTs ts)
  | _, _, .nil => .nil
  | _, _, .cons h hs => .cons (Tv.dz hl h) (Tvs.dz hl hs)
end
mutual
/-- numbers below 10^30, words of 30 signs -/
def Thg.Sm : Thg → Prop
  | .num i => i.natAbs < 10 ^ 30
  | .word s => (reprText s).length ≤ 30
  | .node h xs => (reprText h).length ≤ 30 ∧ Thg.SmL xs
def Thg.SmL : List Thg → Prop
  | [] => True
  | x :: xs => x.Sm ∧ Thg.SmL xs
end
mutual
def Thg.dp : Thg → Nat
  | .node _ xs => Thg.dpL xs + 1
  | _ => 0
def Thg.dpL : List Thg → Nat
  | [] => 0
  | x :: xs => max x.dp (Thg.dpL xs)
end
mutual
def Thg.sz : Thg → Nat
  | .node _ xs => Thg.szL xs + 1
  | _ => 1
def Thg.szL : List Thg → Nat
  | [] => 0
  | x :: xs => x.sz + Thg.szL xs
end
theorem join_sum : ∀ ts : List Str, (Str.join ", " ts).length ≤ (ts.map Str.length).sum + 2 * ts.length
  | [] => by
    have e : (Str.join ", " []).length = 0 := by decide
    omega
  | [x] => by
    show x.length ≤ _
    simp
  | x :: y :: r => by
    have h2 := join_sum (y :: r)
    show (x ++ (", " : Str) ++ Str.join ", " (y :: r)).length ≤ _
    rw [slen, slen]
    have e : (", " : Str).length = 2 := by decide
    rw [e, List.map_cons, List.sum_cons, List.length_cons]
    omega
theorem pow30 : (10 : Nat) ^ 30 < 2 ^ 1920 := by decide +kernel
theorem lim_num {i : Int} (h : i.natAbs < 10 ^ 30) : Lim 0 31 (.int i) := Lim.int (k := 30) (by decide) h (by
  by_cases h0 : i.natAbs = 0
  · rw [h0]
    decide
  · exact (Nat.log2_lt h0).mpr (Nat.lt_trans h pow30))
mutual
theorem Thg.lim : ∀ {t : Thg}, t.Sm → Lim t.dp (40 * t.sz - 2) t.dT
  | .num i, h => (lim_num h).mono (Nat.le_refl _) (by show 31 ≤ 40 * 1 - 2; omega)
  | .word s, h => (Lim.str h).mono (Nat.le_refl _) (by show 30 ≤ 40 * 1 - 2; omega)
  | .node k xs, h => by
    have g1 : (reprText k).length ≤ 30 := h.1
    obtain ⟨a, b, c⟩ := Thg.limL h.2
    refine ⟨?_, ?_, ?_⟩
    · simp only [Thg.dT, PyData.showable, PyData.showableAll, Bool.and_eq_true, true_and, a]
    · simp only [Thg.dT, PyData.depth, PyData.depthAll, Thg.dp]
      omega
    · have e : (Thg.node k xs).dT = .tuple (.str k :: Thg.dTs xs) := rfl
      rw [e, PyData.shown_tuple, slen, slen]
      have e1 : ("(" : Str).length = 1 := by decide
      have e2 : (Str.ofString (if ((PyData.str k :: Thg.dTs xs).length == 1) = true then ",)" else ")" : String)).length ≤ 2 := by
        split <;> decide
      have e3 := join_sum (PyData.shownAll (.str k :: Thg.dTs xs))
      rw [PyData.shownAll_length, PyData.shownAll_cons, List.map_cons, List.sum_cons, PyData.shown_str, List.length_cons, dTs_len] at e3
      rw [PyData.shownAll_cons, PyData.shown_str] at *
      have e4 : (Thg.node k xs).sz = Thg.szL xs + 1 := rfl
      rw [e4, e1]
      omega
theorem Thg.limL : ∀ {ts : List Thg}, Thg.SmL ts → PyData.showableAll (Thg.dTs ts) = true ∧ PyData.depthAll (Thg.dTs ts) ≤ Thg.dpL ts ∧ ((PyData.shownAll (Thg.dTs ts)).map Str.length).sum + 2 * ts.length ≤ 40 * Thg.szL ts
  | [], _ => ⟨by simp only [Thg.dTs, PyData.showableAll], by simp only [Thg.dTs, PyData.depthAll]; omega, by simp only [Thg.dTs]; rw [PyData.shownAll_nil]; simp⟩
  | t :: ts, h => by
    have p := Thg.lim h.1
    obtain ⟨a, b, c⟩ := Thg.limL h.2
    refine ⟨?_, ?_, ?_⟩
    · simp only [Thg.dTs, PyData.showableAll, Bool.and_eq_true]
      exact ⟨p.sh, a⟩
    · have := p.dp
      simp only [Thg.dTs, PyData.depthAll, Thg.dpL]
      omega
    · have := p.ln
      have hz : 1 ≤ t.sz := by cases t <;> simp [Thg.sz]
      simp only [Thg.dTs]
      rw [PyData.shownAll_cons, List.map_cons, List.sum_cons, List.length_cons]
      simp only [Thg.szL]
      omega
end
end LL
set_option maxHeartbeats 4000000
/-! A filling of all unknowns is fixed by what it leads to. -/
namespace LL
open PySem PySem.Spec PyProof.Rows L2 Evl
mutual
theorem Thg.sub_fix {G G' : Int → Thg} : ∀ (t : Thg), Thg.sub (all_ G) t = Thg.sub (all_ G') t → ∀ n ∈ Thg.unkL [t], G n = G' n
  | .num _, _, n, h => by simp [Thg.unkL, Thg.preL, Thg.pre, Thg.unk] at h
  | .word _, _, n, h => by simp [Thg.unkL, Thg.preL, Thg.pre, Thg.unk] at h
  | .node k xs, e, n, h => by
    rw [Thg.unkL_one] at h
    by_cases h0 : k = "?"
    · subst h0
      have hk : (Thg.node "?" xs).kids = [] := by simp [Thg.kids, Thg.leafy]
      rw [hk] at h
      match xs, e, h with
      | [.num m], e, h =>
        have hn : n = m := by simpa [Thg.unk, Thg.unkL, Thg.preL] using h
        rw [Thg.sub_open, Thg.sub_open] at e
        rw [hn, e]
      | [], e, h => simp [Thg.unk, Thg.unkL, Thg.preL] at h
      | [.word _], e, h => simp [Thg.unk, Thg.unkL, Thg.preL] at h
      | [.node _ _], e, h => simp [Thg.unk, Thg.unkL, Thg.preL] at h
      | _ :: _ :: _, e, h => simp [Thg.unk, Thg.unkL, Thg.preL] at h
    · have ho : (Thg.node k xs).isO = false := by simpa [Thg.isO] using h0
      rw [Thg.unk_closed ho] at h
      have h : n ∈ Thg.unkL (Thg.node k xs).kids := by simpa using h
      by_cases h1 : k = "~"
      · have hk : (Thg.node k xs).kids = [] := by simp [Thg.kids, Thg.leafy, h1]
        rw [hk] at h
        simp [Thg.unkL, Thg.preL] at h
      · have hl : Thg.leafy k = false := by simp [Thg.leafy, h0, h1]
        have hk : (Thg.node k xs).kids = xs := by simp [Thg.kids, hl]
        rw [hk] at h
        simp only [Thg.sub, if_neg h0, if_neg h1] at e
        exact Thg.subL_fix xs (by cases e' : Thg.subL (all_ G) xs <;> (rw [e'] at e; simpa using e)) n h
theorem Thg.subL_fix {G G' : Int → Thg} : ∀ (ts : List Thg), Thg.subL (all_ G) ts = Thg.subL (all_ G') ts → ∀ n ∈ Thg.unkL ts, G n = G' n
  | [], _, n, h => by simp [Thg.unkL, Thg.preL] at h
  | t :: ts, e, n, h => by
    have es : Thg.unkL (t :: ts) = Thg.unkL [t] ++ Thg.unkL ts := Thg.unkL_app [t] ts
    rw [es] at h
    simp only [Thg.subL, List.cons.injEq] at e
    rcases List.mem_append.mp h with q | q
    · exact Thg.sub_fix t e.1 n q
    · exact Thg.subL_fix ts e.2 n q
end
/-- two fillings of just the unknowns that lead to one bundle are one -/
theorem fill_one {ts os : List Thg} {f g : Int → Option Thg} (hf : ∀ G, (∀ n t, f n = some t → G n = t) → Thg.subL (all_ G) ts = os) (df : ∀ n, n ∈ Thg.unkL ts ↔ f n ≠ none)
    (hg : ∀ G, (∀ n t, g n = some t → G n = t) → Thg.subL (all_ G) ts = os) (dg : ∀ n, n ∈ Thg.unkL ts ↔ g n ≠ none) : ∀ n, f n = g n := fun n => by
  have a := hf (fun n => (f n).getD (.num 0)) (fun n t h => by simp [h])
  have b := hg (fun n => (g n).getD (.num 0)) (fun n t h => by simp [h])
  have c := Thg.subL_fix ts (a.trans b.symm) n
  by_cases h : n ∈ Thg.unkL ts
  · have c := c h
    obtain ⟨x, hx⟩ := Option.ne_none_iff_exists'.mp ((df n).mp h)
    obtain ⟨y, hy⟩ := Option.ne_none_iff_exists'.mp ((dg n).mp h)
    rw [hx, hy] at c ⊢
    exact congrArg some c
  · have x : f n = none := Classical.byContradiction fun z => h ((df n).mpr z)
    have y : g n = none := Classical.byContradiction fun z => h ((dg n).mpr z)
    rw [x, y]
end LL
set_option maxHeartbeats 4000000
/-! Nice things: plain words out of some, small numbers, unknowns below 1000. -/
namespace LL
open PySem PySem.Spec PyProof.Rows L2 Evl
def WordOk (s : Str) : Prop := PyData.strOk s = true ∧ plainW s = true ∧ (reprText s).length ≤ 30
mutual
def Thg.Nc (W : Str → Prop) : Thg → Prop
  | .num i => i.natAbs < 10 ^ 30
  | .word s => W s ∧ WordOk s
  | .node h xs => WordOk h ∧ (Thg.leafy h = true → ∃ n : Int, xs = [.num n] ∧ (h = "?" → 0 ≤ n ∧ n < 1000)) ∧ Thg.NcL W xs
def Thg.NcL (W : Str → Prop) : List Thg → Prop
  | [] => True
  | x :: xs => x.Nc W ∧ Thg.NcL W xs
end
section
variable {W : Str → Prop} {f : Int → Option Thg}
theorem Thg.NcL.mem {ts : List Thg} (h : Thg.NcL W ts) : ∀ t ∈ ts, t.Nc W := by
  induction ts with
  | nil => intro t ht; cases ht
  | cons x xs ih =>
    intro t ht
    rcases List.mem_cons.mp ht with e | e
    · rw [e]; exact h.1
    · exact ih h.2 t e
theorem Thg.NcL.of {ts : List Thg} (h : ∀ t ∈ ts, t.Nc W) : Thg.NcL W ts := by
  induction ts with
  | nil => exact trivial
  | cons x xs ih => exact ⟨h x List.mem_cons_self, ih fun t ht => h t (List.mem_cons_of_mem _ ht)⟩
mutual
theorem Thg.Nc.wf : ∀ {t : Thg}, t.Nc W → t.Wf
  | .num _, _ => trivial
  | .word _, h => h.2.1
  | .node _ _, h => ⟨h.1.1, (fun z => by obtain ⟨n, e, _⟩ := h.2.1 z; exact ⟨n, e⟩), Thg.NcL.wf h.2.2⟩
theorem Thg.NcL.wf : ∀ {ts : List Thg}, Thg.NcL W ts → Thg.WfL ts
  | [], _ => trivial
  | _ :: _, h => ⟨Thg.Nc.wf h.1, Thg.NcL.wf h.2⟩
end
mutual
theorem Thg.Nc.pl : ∀ {t : Thg}, t.Nc W → t.Pl
  | .num _, _ => trivial
  | .word _, h => h.2.2.1
  | .node _ _, h => ⟨h.1.2.1, Thg.NcL.pl h.2.2⟩
theorem Thg.NcL.pl : ∀ {ts : List Thg}, Thg.NcL W ts → Thg.PlL ts
  | [], _ => trivial
  | _ :: _, h => ⟨Thg.Nc.pl h.1, Thg.NcL.pl h.2⟩
end
mutual
theorem Thg.Nc.sm : ∀ {t : Thg}, t.Nc W → t.Sm
  | .num _, h => h
  | .word _, h => h.2.2.2
  | .node _ _, h => ⟨h.1.2.2, Thg.NcL.sm h.2.2⟩
theorem Thg.NcL.sm : ∀ {ts : List Thg}, Thg.NcL W ts → Thg.SmL ts
  | [], _ => trivial
  | _ :: _, h => ⟨Thg.Nc.sm h.1, Thg.NcL.sm h.2⟩
end
mutual
theorem Thg.Nc.imp {W' : Str → Prop} (k : ∀ s, W s → W' s) : ∀ {t : Thg}, t.Nc W → t.Nc W'
  | .num _, h => h
  | .word _, h => ⟨k _ h.1, h.2⟩
  | .node _ _, h => ⟨h.1, h.2.1, Thg.NcL.imp k h.2.2⟩
theorem Thg.NcL.imp {W' : Str → Prop} (k : ∀ s, W s → W' s) : ∀ {ts : List Thg}, Thg.NcL W ts → Thg.NcL W' ts
  | [], _ => trivial
  | _ :: _, h => ⟨Thg.Nc.imp k h.1, Thg.NcL.imp k h.2⟩
end
theorem leafy_no {h : Str} (a : h ≠ "?") (b : h ≠ "~") : Thg.leafy h = false := by simp [Thg.leafy, a, b]
mutual
theorem Thg.Nc.sub (hf : ∀ n t, f n = some t → t.Nc W) : ∀ {t : Thg}, t.Nc W → (Thg.sub f t).Nc W
  | .num _, h => h
  | .word _, h => h
  | .node k xs, h => by
    simp only [Thg.sub]
    split
    · split
      · rename_i n
        cases e : f n with
        | none => exact h
        | some t => exact hf n t e
      · exact h
    · split
      · exact h
      · rename_i h1 h2
        exact ⟨h.1, (fun z => by rw [leafy_no h1 h2] at z; cases z), Thg.NcL.sub hf h.2.2⟩
theorem Thg.NcL.sub (hf : ∀ n t, f n = some t → t.Nc W) : ∀ {ts : List Thg}, Thg.NcL W ts → Thg.NcL W (Thg.subL f ts)
  | [], _ => trivial
  | _ :: _, h => ⟨Thg.Nc.sub hf h.1, Thg.NcL.sub hf h.2⟩
end
mutual
theorem Thg.sz_pos : ∀ t : Thg, 1 ≤ t.sz
  | .num _ => Nat.le_refl _
  | .word _ => Nat.le_refl _
  | .node _ _ => by simp [Thg.sz]
end
/-- how great what is filled is -/
theorem sub_arith {a M s : Nat} (hM : 2 ≤ M) (h : 2 * a ≤ s * M) : 2 * (a + 1) ≤ (s + 1) * M := by
  have e : (s + 1) * M = s * M + M := Nat.succ_mul s M
  omega
mutual
theorem Thg.sub_sz {M : Nat} (hM : 2 ≤ M) (hf : ∀ n t, f n = some t → t.sz ≤ M) : ∀ t : Thg, 2 * (Thg.sub f t).sz ≤ t.sz * M
  | .num _ => by simp only [Thg.sub, Thg.sz]; omega
  | .word _ => by simp only [Thg.sub, Thg.sz]; omega
  | .node k xs => by
    have same : 2 * (Thg.node k xs).sz ≤ (Thg.node k xs).sz * M := by
      rw [Nat.mul_comm]
      exact Nat.mul_le_mul_left _ hM
    simp only [Thg.sub]
    split
    · split
      · rename_i n
        cases e : f n with
        | none => exact same
        | some t =>
          have := hf n t e
          show 2 * t.sz ≤ _
          simp only [Thg.sz, Thg.szL]
          omega
      · exact same
    · split
      · exact same
      · exact sub_arith hM (Thg.subL_sz hM hf xs)
theorem Thg.subL_sz {M : Nat} (hM : 2 ≤ M) (hf : ∀ n t, f n = some t → t.sz ≤ M) : ∀ ts : List Thg, 2 * Thg.szL (Thg.subL f ts) ≤ Thg.szL ts * M
  | [] => by simp [Thg.subL, Thg.szL]
  | t :: ts => by
    have a := Thg.sub_sz hM hf t
    have b := Thg.subL_sz hM hf ts
    simp only [Thg.subL, Thg.szL]
    rw [Nat.add_mul]
    omega
end
mutual
theorem Thg.sub_dp {M : Nat} (hf : ∀ n t, f n = some t → t.dp ≤ M) : ∀ t : Thg, (Thg.sub f t).dp ≤ t.dp + M
  | .num _ => by simp [Thg.sub, Thg.dp]
  | .word _ => by simp [Thg.sub, Thg.dp]
  | .node k xs => by
    have same : (Thg.node k xs).dp ≤ (Thg.node k xs).dp + M := by omega
    simp only [Thg.sub]
    split
    · split
      · rename_i n
        cases e : f n with
        | none => exact same
        | some t =>
          have := hf n t e
          show t.dp ≤ _
          omega
      · exact same
    · split
      · exact same
      · have := Thg.subL_dp hf xs
        simp only [Thg.dp]
        omega
theorem Thg.subL_dp {M : Nat} (hf : ∀ n t, f n = some t → t.dp ≤ M) : ∀ ts : List Thg, Thg.dpL (Thg.subL f ts) ≤ Thg.dpL ts + M
  | [] => by simp [Thg.subL, Thg.dpL]
  | t :: ts => by
    have a := Thg.sub_dp hf t
    have b := Thg.subL_dp hf ts
    simp only [Thg.subL, Thg.dpL]
    omega
end
mutual
theorem Thg.pre_sz : ∀ t : Thg, t.pre.length ≤ t.sz
  | .num _ => by simp [Thg.pre, Thg.sz]
  | .word _ => by simp [Thg.pre, Thg.sz]
  | .node k xs => by
    have := Thg.preL_sz xs
    simp only [Thg.pre, Thg.sz]
    split
    · simp
    · simp only [List.length_cons]
      omega
theorem Thg.preL_sz : ∀ ts : List Thg, (Thg.preL ts).length ≤ Thg.szL ts
  | [] => by simp [Thg.preL, Thg.szL]
  | t :: ts => by
    have a := Thg.pre_sz t
    have b := Thg.preL_sz ts
    simp only [Thg.preL, Thg.szL, List.length_append]
    omega
end
theorem szL_le {M : Nat} : ∀ {ts : List Thg}, (∀ t ∈ ts, t.sz ≤ M) → Thg.szL ts ≤ M * ts.length
  | [], _ => by simp [Thg.szL]
  | t :: ts, h => by
    have a := h t List.mem_cons_self
    have b := szL_le (ts := ts) fun u hu => h u (List.mem_cons_of_mem _ hu)
    simp only [Thg.szL, List.length_cons]
    rw [Nat.mul_add, Nat.mul_one]
    omega
theorem dpL_le {M : Nat} : ∀ {ts : List Thg}, (∀ t ∈ ts, t.dp ≤ M) → Thg.dpL ts ≤ M
  | [], _ => by simp [Thg.dpL]
  | t :: ts, h => by
    have a := h t List.mem_cons_self
    have b := dpL_le (ts := ts) fun u hu => h u (List.mem_cons_of_mem _ hu)
    simp only [Thg.dpL]
    omega
/-- two at once: unknowns counted twice are within the size -/
theorem Thg.unk_node {k : Str} {xs : List Thg} : Thg.unkL [Thg.node k xs] = (match (Thg.node k xs).unk with | some n => [n] | none => []) ++ Thg.unkL (Thg.node k xs).kids := by
  unfold Thg.unkL
  rw [Thg.preL, Thg.preL, List.append_nil, Thg.pre_eq, List.filterMap_cons]
  cases (Thg.node k xs).unk <;> rfl
/-- the unknowns of a nice thing -/
theorem Thg.Nc.unk_node {k : Str} {xs : List Thg} (h : (Thg.node k xs).Nc W) : (k = "?" ∧ ∃ n : Int, xs = [.num n] ∧ 0 ≤ n ∧ n < 1000 ∧ Thg.unkL [Thg.node k xs] = [n]) ∨ (k = "~" ∧ Thg.unkL [Thg.node k xs] = []) ∨ (k ≠ "?" ∧ k ≠ "~" ∧ Thg.unkL [Thg.node k xs] = Thg.unkL xs) := by
  by_cases e1 : k = "?"
  · obtain ⟨n, e, hn⟩ := h.2.1 (by rw [e1]; rfl)
    subst e1 e
    refine .inl ⟨rfl, n, rfl, (hn rfl).1, (hn rfl).2, ?_⟩
    simp [Thg.unkL, Thg.preL, Thg.pre, Thg.unk, Thg.leafy]
  · by_cases e2 : k = "~"
    · obtain ⟨n, e, _⟩ := h.2.1 (by rw [e2]; rfl)
      subst e2 e
      refine .inr (.inl ⟨rfl, ?_⟩)
      simp [Thg.unkL, Thg.preL, Thg.pre, Thg.unk, Thg.leafy, e1]
    · refine .inr (.inr ⟨e1, e2, ?_⟩)
      have hl := leafy_no e1 e2
      have ho : (Thg.node k xs).unk = none := Thg.unk_closed (by simpa [Thg.isO] using e1)
      rw [Thg.unk_node, ho]
      simp [Thg.kids, hl]
theorem Thg.unkL_cons (t : Thg) (ts : List Thg) : Thg.unkL (t :: ts) = Thg.unkL [t] ++ Thg.unkL ts := Thg.unkL_app [t] ts
mutual
theorem Thg.Nc.unk_bd : ∀ {t : Thg}, t.Nc W → ∀ n ∈ Thg.unkL [t], 0 ≤ n ∧ n < 1000
  | .num _, _, n, h => by simp [Thg.unkL, Thg.preL, Thg.pre, Thg.unk] at h
  | .word _, _, n, h => by simp [Thg.unkL, Thg.preL, Thg.pre, Thg.unk] at h
  | .node k xs, hn, n, h => by
    rcases hn.unk_node with ⟨_, m, _, m0, m1, e⟩ | ⟨_, e⟩ | ⟨_, _, e⟩
    · rw [e] at h
      rw [List.mem_singleton.mp h]
      exact ⟨m0, m1⟩
    · rw [e] at h
      cases h
    · rw [e] at h
      exact Thg.NcL.unk_bd hn.2.2 n h
theorem Thg.NcL.unk_bd : ∀ {ts : List Thg}, Thg.NcL W ts → ∀ n ∈ Thg.unkL ts, 0 ≤ n ∧ n < 1000
  | [], _, n, h => by simp [Thg.unkL, Thg.preL] at h
  | t :: ts, hn, n, h => by
    rw [Thg.unkL_cons] at h
    rcases List.mem_append.mp h with e | e
    · exact Thg.Nc.unk_bd hn.1 n e
    · exact Thg.NcL.unk_bd hn.2 n e
end
mutual
theorem Thg.Nc.unk_sz : ∀ {t : Thg}, t.Nc W → 2 * (Thg.unkL [t]).length ≤ t.sz
  | .num i, _ => by
    have e : Thg.unkL [.num i] = [] := by simp [Thg.unkL, Thg.preL, Thg.pre, Thg.unk]
    rw [e]
    simp
  | .word s, _ => by
    have e : Thg.unkL [.word s] = [] := by simp [Thg.unkL, Thg.preL, Thg.pre, Thg.unk]
    rw [e]
    simp
  | .node k xs, hn => by
    rcases hn.unk_node with ⟨_, m, ex, m0, m1, e⟩ | ⟨_, e⟩ | ⟨_, _, e⟩
    · rw [e, ex]
      simp [Thg.sz, Thg.szL]
    · rw [e]
      simp
    · rw [e]
      have := Thg.NcL.unk_sz hn.2.2
      simp only [Thg.sz]
      omega
theorem Thg.NcL.unk_sz : ∀ {ts : List Thg}, Thg.NcL W ts → 2 * (Thg.unkL ts).length ≤ Thg.szL ts
  | [], _ => by simp [Thg.unkL, Thg.preL]
  | t :: ts, hn => by
    have a := Thg.Nc.unk_sz hn.1
    have b := Thg.NcL.unk_sz hn.2
    rw [Thg.unkL_cons, List.length_append]
    simp only [Thg.szL]
    omega
end
mutual
/-- what is put for an unknown is no greater than the whole -/
theorem Thg.sub_part : ∀ {t : Thg}, t.Nc W → ∀ n ∈ Thg.unkL [t], ∀ u, f n = some u → u.sz ≤ (Thg.sub f t).sz ∧ u.dp ≤ (Thg.sub f t).dp
  | .num _, _, n, h, _, _ => by simp [Thg.unkL, Thg.preL, Thg.pre, Thg.unk] at h
  | .word _, _, n, h, _, _ => by simp [Thg.unkL, Thg.preL, Thg.pre, Thg.unk] at h
  | .node k xs, hn, n, h, u, hu => by
    rcases hn.unk_node with ⟨ek, m, ex, m0, m1, e⟩ | ⟨_, e⟩ | ⟨h1, h2, e⟩
    · rw [e] at h
      have em := List.mem_singleton.mp h
      subst em ex ek
      simp [Thg.sub, hu]
    · rw [e] at h
      cases h
    · rw [e] at h
      obtain ⟨a, b⟩ := Thg.subL_part hn.2.2 n h u hu
      simp only [Thg.sub, h1, h2, if_false, Thg.sz, Thg.dp]
      omega
theorem Thg.subL_part : ∀ {ts : List Thg}, Thg.NcL W ts → ∀ n ∈ Thg.unkL ts, ∀ u, f n = some u → u.sz ≤ Thg.szL (Thg.subL f ts) ∧ u.dp ≤ Thg.dpL (Thg.subL f ts)
  | [], _, n, h, _, _ => by simp [Thg.unkL, Thg.preL] at h
  | t :: ts, hn, n, h, u, hu => by
    rw [Thg.unkL_cons] at h
    simp only [Thg.subL, Thg.szL, Thg.dpL]
    rcases List.mem_append.mp h with e | e
    · obtain ⟨a, b⟩ := Thg.sub_part hn.1 n e u hu
      omega
    · obtain ⟨a, b⟩ := Thg.subL_part hn.2 n e u hu
      omega
end
mutual
/-- what is put for an unknown is nice if the whole is -/
theorem Thg.sub_in : ∀ {t : Thg}, t.Nc W → ∀ n ∈ Thg.unkL [t], ∀ u, f n = some u → (Thg.sub f t).Nc W → u.Nc W
  | .num _, _, n, h, _, _, _ => by simp [Thg.unkL, Thg.preL, Thg.pre, Thg.unk] at h
  | .word _, _, n, h, _, _, _ => by simp [Thg.unkL, Thg.preL, Thg.pre, Thg.unk] at h
  | .node k xs, hn, n, h, u, hu, hs => by
    rcases hn.unk_node with ⟨ek, m, ex, m0, m1, e⟩ | ⟨_, e⟩ | ⟨h1, h2, e⟩
    · rw [e] at h
      have em := List.mem_singleton.mp h
      subst em ex ek
      simpa [Thg.sub, hu] using hs
    · rw [e] at h
      cases h
    · rw [e] at h
      simp only [Thg.sub, h1, h2, if_false] at hs
      exact Thg.subL_in hn.2.2 n h u hu hs.2.2
theorem Thg.subL_in : ∀ {ts : List Thg}, Thg.NcL W ts → ∀ n ∈ Thg.unkL ts, ∀ u, f n = some u → Thg.NcL W (Thg.subL f ts) → u.Nc W
  | [], _, n, h, _, _, _ => by simp [Thg.unkL, Thg.preL] at h
  | t :: ts, hn, n, h, u, hu, hs => by
    rw [Thg.unkL_cons] at h
    rcases List.mem_append.mp h with e | e
    · exact Thg.sub_in hn.1 n e u hu hs.1
    · exact Thg.subL_in hn.2 n e u hu hs.2
end
theorem Thg.unk_self (n : Int) : Thg.unkL [.node "?" [.num n]] = [n] := by simp [Thg.unkL, Thg.preL, Thg.pre, Thg.unk, Thg.leafy]
mutual
/-- fillings that are alike at the unknowns -/
theorem Thg.sub_cong {f g : Int → Option Thg} : ∀ (t : Thg), (∀ n ∈ Thg.unkL [t], f n = g n) → Thg.sub f t = Thg.sub g t
  | .num _, _ => rfl
  | .word _, _ => rfl
  | .node k xs, h => by
    simp only [Thg.sub]
    by_cases h1 : k = "?"
    · simp only [h1, if_true]
      split
      · rename_i n
        rw [h1] at h
        rw [h n (by rw [Thg.unk_self]; exact List.mem_singleton.mpr rfl)]
      · rfl
    · simp only [h1, if_false]
      by_cases h2 : k = "~"
      · simp only [h2, if_true]
      · simp only [h2, if_false]
        have hl := leafy_no h1 h2
        rw [Thg.subL_cong xs fun n hn => h n (by
          rw [Thg.unk_node, Thg.unk_closed (by simpa [Thg.isO] using h1)]
          simpa [Thg.kids, hl] using hn)]
theorem Thg.subL_cong {f g : Int → Option Thg} : ∀ (ts : List Thg), (∀ n ∈ Thg.unkL ts, f n = g n) → Thg.subL f ts = Thg.subL g ts
  | [], _ => rfl
  | t :: ts, h => by
    simp only [Thg.subL]
    rw [Thg.sub_cong t fun n hn => h n (by rw [Thg.unkL_cons]; exact List.mem_append_left _ hn), Thg.subL_cong ts fun n hn => h n (by rw [Thg.unkL_cons]; exact List.mem_append_right _ hn)]
end
/-- an unlike list out of another one is no longer -/
theorem nodup_le {α : Type} : ∀ (l D : List α), l.Nodup → (∀ x ∈ l, x ∈ D) → l.length ≤ D.length
  | [], _, _, _ => Nat.zero_le _
  | x :: l, D, hn, hs => by
    obtain ⟨h1, h2⟩ := List.nodup_cons.mp hn
    obtain ⟨A, B, rfl⟩ := List.append_of_mem (hs x List.mem_cons_self)
    have ih := nodup_le l (A ++ B) h2 fun y hy => by
      have hne : y ≠ x := fun e => h1 (e ▸ hy)
      rcases List.mem_append.mp (hs y (List.mem_cons_of_mem _ hy)) with q | q
      · exact List.mem_append_left _ q
      · rcases List.mem_cons.mp q with r | r
        · exact absurd r hne
        · exact List.mem_append_right _ r
    simp only [List.length_append, List.length_cons] at ih ⊢
    omega
end
end LL
set_option maxHeartbeats 4000000
/-! Tuples of which it is known that they are plain objects; dict(t) of such a tuple of pairs. -/
namespace LL
open PySem PySem.Spec PyProof.Rows L2 Evl
def PlainO (o : Obj) : Prop := o.cls = .type "tuple" ∧ o.dict = none
/-- a plain tuple -/
def Fz (H : Hp) (a : Addr) (xs : List V) : Prop := ∃ o, H a = some (.frz o (.tup xs)) ∧ PlainO o
theorem Fz.sq {K : PySem.W.Frag} {H : Hp} {a : Addr} {xs : List V} (h : Fz H a xs) : SqT K H a xs := by
  obtain ⟨o, e, _⟩ := h
  exact .inl (.inr ⟨o, e⟩)
def tTupF (t : TA) : TE := fun σ H Q => t σ H fun xs H1 => xs.length ≤ sizeLine ∧ ∀ p o, H1 p = none → PlainO o → Q (.ref p) (upd H1 p (.frz o (.tup xs)))
theorem pe_tupF {X : Cx} {es : List Expr} {t : TA} {x1} {pos : Pos} (h : PA X es t) : PE X (.Tuple es x1 pos) (tTupF t) := by
  constructor
  intro pins s σ H Q I hq
  have go := h.run pos pins s σ H _ I hq
  refine wpAny_Tuple_spliced (thn go ?_)
  rintro us s1 ⟨xs, H1, I1, r, z, q⟩
  have fr : H1 s1.heap.objs.size = none := I1.hok.fresh (Nat.le_refl _)
  have at_ : (s1.heap.push { cls := .type "tuple", data := .seq us.toArray }).get? s1.heap.objs.size = some { cls := .type "tuple", data := .seq us.toArray } := Heap.get?_push_size _ rfl
  refine ⟨by rw [← r.length]; exact z, .ref s1.heap.objs.size, upd H1 s1.heap.objs.size (.frz { cls := .type "tuple", data := .seq us.toArray } (.tup xs)), ?_, rfl, q _ _ fr ⟨rfl, rfl⟩⟩
  exact I1.laid (t' := s1.toks) (fun b u e => Heap.get?_push_of_some _ e) (Nat.le_refl _) ⟨at_, z, us, r, ⟨_, at_, rfl, _, rfl⟩⟩
/-- dict(t), t a plain tuple of pairs -/
def rDictT (K : PySem.W.Frag) : List V → Hp → VK → Prop := fun xs H Q => ∃ (a : Addr) (ps : List Addr) (kvs : List (Key × V)), xs = [.ref a] ∧ Fz H a (ps.map V.ref) ∧ Paired (fun p kv => SqT K H p [kV kv.1, kv.2]) ps kvs ∧ ∀ p, H p = none → Q (.ref p) (upd H p (.dK (mergeK [] kvs)))
theorem call_dictT {X : Cx} (hcalm : X.calm = true) : CallR X (.type "dict") (rDictT X.K) := by
  rintro pins s σ H xs us Q I r ⟨a, ps, kvs, rfl, ⟨o, ha, oc, od⟩, hp, q⟩
  obtain ⟨u, rfl, rx⟩ := vals1 r
  cases rx
  obtain ⟨ho, hz, its, rv, o2, ho2, _, n, hdat⟩ := I.hok a _ ha
  rw [ho] at ho2
  cases ho2
  obtain rfl := refs_at rv
  obtain ⟨prs, rel, hl, hpr⟩ := pairs_of I hp
  have key : ∀ j, j < prs.length → ∃ (b : Addr) (u v : Value) (k : Key), ps[j]? = some b ∧ prs[j]? = some (k, v) ∧ IsTup s.heap b #[u, v] ∧ keyIs k u = true := fun j hj => by
    obtain ⟨b, u, e1, e2, e3⟩ := hpr j prs[j] (List.getElem?_eq_getElem hj)
    exact ⟨b, u, prs[j].2, prs[j].1, e1, List.getElem?_eq_getElem hj, e2, e3⟩
  -- the pairs as they stand in the heap
  have ex : ∃ qs : List (Value × Value), qs.length = prs.length ∧ ∀ (j : Nat) (k v : Value), qs[j]? = some (k, v) → ∃ (b : Addr) (kk : Key), ps[j]? = some b ∧ IsTup s.heap b #[k, v] ∧ prs[j]? = some (kk, v) ∧ keyIs kk k = true := by
    refine ⟨(List.range prs.length).map fun j => if h : j < prs.length then ((key j h).choose_spec.choose, (key j h).choose_spec.choose_spec.choose) else (.none, .none), by simp, fun j k v e => ?_⟩
    rw [List.getElem?_map] at e
    obtain ⟨j', e1, e2⟩ := Option.map_eq_some_iff.mp e
    obtain ⟨hj, e3⟩ := List.getElem?_eq_some_iff.mp e1
    rw [List.getElem_range] at e3
    subst e3
    rw [List.length_range] at hj
    rw [dif_pos hj] at e2
    obtain ⟨kk, f1, f2, f3, f4⟩ := (key j hj).choose_spec.choose_spec.choose_spec
    cases e2
    exact ⟨_, kk, f1, f3, f2, f4⟩
  obtain ⟨qs, ql, qh⟩ := ex
  have it : PairItems s.heap (ps.map Value.ref).toArray (fun j => ps.getD j 0) qs := by
    refine ⟨by simp [ql, hl], fun j k v e => ?_⟩
    obtain ⟨b, kk, f1, ⟨ob, f2, f3, nb, f4⟩, _, _⟩ := qh j k v e
    have eb : ps.getD j 0 = b := by rw [List.getD_eq_getElem?_getD, f1]; rfl
    show _ = some (Value.ref (ps.getD j 0)) ∧ PairAt s.heap (ps.getD j 0) k v
    rw [eb]
    exact ⟨by simp [f1], .inl ⟨ob, f2, f3, nb, f4⟩⟩
  have hz2 : prs.length ≤ sizeLine := by rw [hl]; simpa using hz
  refine PySem.call_dict_pairs (knd := mixKind X.prog X.w) (kvs := prs) (PairArg.tuple a (ps.map Value.ref).toArray (fun j => ps.getD j 0) qs) (I.ok.hd hcalm) ⟨⟨o, n, ho, oc, od, hdat⟩, it⟩ ⟨ql.symm, fun i k v e => ?_⟩ (by rw [ql]; exact hz2) fun h' tk hd' k => ?_
  · obtain ⟨b, kk, _, _, f3, f4⟩ := qh i k v e
    exact ⟨kk, f3, f4⟩
  · have hm : (s.heap.objs.size == sysModules) = false := beq_eq_false_iff_ne.mpr (Nat.ne_of_gt I.big)
    have hlen : (mergeK [] kvs).length ≤ sizeLine := by
      have a1 := length_mergeK kvs []
      have a2 := rel.length
      rw [List.length_nil] at a1
      omega
    have kp : ∀ b u, s.heap.get? b = some u → h'.get? b = some u := fun b u e => k b u (by simp) e
    exact ⟨.ref s.heap.objs.size, upd H s.heap.objs.size (.dK (mergeK [] kvs)), I.laid (t' := tk) kp (Nat.le_refl _) ⟨hlen, hm, merged [] prs, KV.merge rel .nil, hd'⟩, rfl, q _ (I.hok.fresh (Nat.le_refl _))⟩
end LL
set_option maxHeartbeats 16000000
/-! What stays while things are drawn; books; sorts of unknowns. -/
namespace K03
open PySem PySem.Spec PyProof.Rows L2 Evl LL
/-- all stays but at l, at o -/
def Exo (l o : Addr) (H H' : Hp) : Prop := ∀ a x, a ≠ l → a ≠ o → H a = some x → H' a = some x
theorem Exo.refl (l o : Addr) (H : Hp) : Exo l o H H := fun _ _ _ _ h => h
theorem Exo.trans {l o : Addr} {H H1 H2 : Hp} (a : Exo l o H H1) (b : Exo l o H1 H2) : Exo l o H H2 := fun x u n m h => b x u n m (a x u n m h)
theorem Exo.of {l o : Addr} {H H' : Hp} (e : Exl l H H') : Exo l o H H' := fun a x n _ h => e a x n h
theorem Exo.ex {l o : Addr} {H H' : Hp} (e : Ex H H') : Exo l o H H' := fun a x _ _ h => e a x h
theorem Exo.exl {l o : Addr} {H H' : Hp} (h : o = l) (e : Exo l o H H') : Exl l H H' := fun a x n q => e a x n (by rw [h]; exact n) q
theorem Exo.upd {l o : Addr} {H : Hp} {x : HO} : Exo l o H (upd H o x) := fun a u _ n h => by rw [upd_ne n]; exact h
theorem Exo.own {l o p : Addr} {H H1 : Hp} {x : HO} (e : Exo l o H H1) (n : H p = none) : Exo l o H (L2.upd H1 p x) := fun a u na nb ha => by
  rw [upd_ne (fun z => by rw [z, n] at ha; cases ha)]
  exact e a u na nb ha
theorem Exl.own {l p : Addr} {H H1 : Hp} {x : HO} (e : Exl l H H1) (n : H p = none) : Exl l H (L2.upd H1 p x) := fun a u na ha => by
  rw [upd_ne (fun z => by rw [z, n] at ha; cases ha)]
  exact e a u na ha
/-- tuples stay -/
structure Stay (H H' : Hp) : Prop where
  tup : TupEx H H'
  frz : ∀ a o xs, H a = some (.frz o (.tup xs)) → H' a = some (.frz o (.tup xs))
theorem Stay.refl (H : Hp) : Stay H H := ⟨fun _ _ h => h, fun _ _ _ h => h⟩
theorem Stay.trans {H H1 H2 : Hp} (a : Stay H H1) (b : Stay H1 H2) : Stay H H2 := ⟨a.tup.trans b.tup, fun x o xs h => b.frz x o xs (a.frz x o xs h)⟩
theorem Stay.ex {H H' : Hp} (e : Ex H H') : Stay H H' := ⟨TupEx.of e, fun a o xs h => e _ _ h⟩
theorem Stay.upd {H : Hp} {p : Addr} {x : HO} (h1 : ∀ xs, H p ≠ some (.tup xs)) (h2 : ∀ o xs, H p ≠ some (.frz o (.tup xs))) : Stay H (upd H p x) :=
  ⟨fun a xs h => by rw [upd_ne (fun z => h1 xs (by rw [← z]; exact h))]; exact h, fun a o xs h => by rw [upd_ne (fun z => h2 o xs (by rw [← z]; exact h))]; exact h⟩
theorem Stay.lst {H : Hp} {p : Addr} {x : HO} {xs : List V} (h : H p = some (.lst xs)) : Stay H (L2.upd H p x) := Stay.upd (fun _ z => by rw [h] at z; cases z) (fun _ _ z => by rw [h] at z; cases z)
theorem Stay.dic {H : Hp} {p : Addr} {x : HO} {xs : List (Key × V)} (h : H p = some (.dK xs)) : Stay H (L2.upd H p x) := Stay.upd (fun _ z => by rw [h] at z; cases z) (fun _ _ z => by rw [h] at z; cases z)
theorem Stay.new {H : Hp} {p : Addr} {x : HO} (h : H p = none) : Stay H (L2.upd H p x) := Stay.ex (Ex.new h)
/-- what may change is no tuple -/
structure Off (l o : Addr) (H : Hp) : Prop where
  l_ : ∃ xs, H l = some (.lst xs)
  o_ : o = l ∨ (∃ kvs, H o = some (.dK kvs)) ∨ ∃ xs, H o = some (.lst xs)
theorem Exo.stay {l o : Addr} {H H' : Hp} (e : Exo l o H H') (f : Off l o H) : Stay H H' := by
  obtain ⟨⟨xs, hl⟩, ho⟩ := f
  have nl : ∀ {a : Addr} {x : HO}, H a = some x → (∀ ys, x ≠ .lst ys) → a ≠ l := fun h n z => by
    rw [z, hl] at h
    exact n xs (Option.some.inj h).symm
  have no : ∀ {a : Addr} {x : HO}, H a = some x → (∀ ys, x ≠ .lst ys) → (∀ ys, x ≠ .dK ys) → a ≠ o := fun h n m z => by
    rcases ho with e | ⟨kvs, e⟩ | ⟨ys, e⟩
    · exact nl h n (by rw [z, e])
    · rw [z, e] at h
      exact m kvs (Option.some.inj h).symm
    · rw [z, e] at h
      exact n ys (Option.some.inj h).symm
  exact ⟨fun a ys h => e a _ (nl h (fun _ z => nomatch z)) (no h (fun _ z => nomatch z) (fun _ z => nomatch z)) h, fun a ob ys h => e a _ (nl h (fun _ z => nomatch z)) (no h (fun _ z => nomatch z) (fun _ z => nomatch z)) h⟩
theorem HandC.lst {H : Hp} {l c : Addr} (h : HandC H l c) : ∃ xs, H l = some (.lst xs) := by
  obtain ⟨ns, i, g, m, t, h1, _⟩ := h
  exact ⟨_, h1⟩
theorem HandC.off {H : Hp} {l c : Addr} (h : HandC H l c) : Off l l H := ⟨h.lst, .inl rfl⟩
theorem HandC.stay {H H' : Hp} {l c : Addr} (h : HandC H l c) (e : Exl l H H') : Stay H H' := (Exo.of (o := l) e).stay h.off
theorem HandC.tup {H : Hp} {l c p : Addr} {xs : List V} (h : HandC H l c) (hp : H p = some (.tup xs)) : p ≠ l ∧ p ≠ c := by
  obtain ⟨ns, i, g, m, t, h1, h2, _⟩ := h
  exact ⟨(fun e => by rw [e, h1] at hp; cases hp), (fun e => by rw [e, h2] at hp; cases hp)⟩
theorem HandC.dic {H : Hp} {l c p : Addr} {xs : List (Key × V)} (h : HandC H l c) (hp : H p = some (.dK xs)) : p ≠ l ∧ p ≠ c := by
  obtain ⟨ns, i, g, m, t, h1, h2, _⟩ := h
  exact ⟨(fun e => by rw [e, h1] at hp; cases hp), (fun e => by rw [e, h2] at hp; cases hp)⟩
def MonS (R : VP) : Prop := ∀ v H H', Stay H H' → R v H → R v H'
theorem MonS.mon {R : VP} (m : MonS R) : Mon R := fun v H H' e h => m v H H' (Stay.ex e) h
theorem MonS.ofT {R : VP} (m : MonT R) : MonS R := fun v H H' e h => m v H H' e.tup h
theorem all2S {Rs : List VP} (m : ∀ R ∈ Rs, MonS R) {vs : List V} {H H' : Hp} (e : Stay H H') (h : All2 Rs vs H) : All2 Rs vs H' := by
  induction h with
  | nil => exact .nil
  | cons a b ih => exact .cons (m _ List.mem_cons_self _ _ _ e a) (ih fun R hR => m R (List.mem_cons_of_mem _ hR))
theorem all2_mem {Rs : List VP} {vs : List V} {H : Hp} {v : V} (h : All2 Rs vs H) (hv : v ∈ vs) : ∃ R ∈ Rs, R v H := by
  induction h with
  | nil => cases hv
  | @cons x xs R Rs a b ih =>
    rcases List.mem_cons.mp hv with e | e
    · exact ⟨_, List.mem_cons_self, by rw [e]; exact a⟩
    · obtain ⟨S, hS, q⟩ := ih e
      exact ⟨S, List.mem_cons_of_mem _ hS, q⟩
theorem all2_get {Rs : List VP} {vs : List V} {H : Hp} {v : V} {i : Nat} (h : All2 Rs vs H) (hv : vs[i]? = some v) : ∃ R, Rs[i]? = some R ∧ R v H := by
  induction h generalizing i with
  | nil => simp at hv
  | cons a b ih =>
    cases i with
    | zero => simp at hv; subst hv; exact ⟨_, rfl, a⟩
    | succ i => exact ih (by simpa using hv)
theorem all2_perm {Rs : List VP} {vs us : List V} {H : Hp} (p : us.Perm vs) : All2 Rs vs H → ∃ Ss, Ss.Perm Rs ∧ All2 Ss us H := by
  intro h
  induction p generalizing Rs with
  | nil => cases h; exact ⟨[], .nil, .nil⟩
  | cons x _ ih =>
    cases h with
    | cons a b =>
      obtain ⟨S, p1, p2⟩ := ih b
      exact ⟨_, p1.cons _, .cons a p2⟩
  | swap x y l =>
    cases h with
    | cons a b =>
      cases b with
      | cons c d => exact ⟨_, .swap _ _ _, .cons c (.cons a d)⟩
  | trans _ _ ih1 ih2 =>
    obtain ⟨S, p1, p2⟩ := ih2 h
    obtain ⟨S2, p3, p4⟩ := ih1 p2
    exact ⟨S2, p3.trans p1, p4⟩
theorem all2_permF {α : Type} (g : α → VP) {H : Hp} {vs us : List V} (p : us.Perm vs) : ∀ {as : List α}, All2 (as.map g) vs H → ∃ bs : List α, bs.Perm as ∧ All2 (bs.map g) us H := by
  induction p with
  | nil =>
    intro as h
    cases as with
    | nil => exact ⟨[], .nil, .nil⟩
    | cons a as => cases h
  | cons x _ ih =>
    intro as h
    cases as with
    | nil => cases h
    | cons a as =>
      cases h with
      | cons q r =>
        obtain ⟨bs, p1, p2⟩ := ih r
        exact ⟨a :: bs, p1.cons _, .cons q p2⟩
  | swap x y l =>
    intro as h
    cases as with
    | nil => cases h
    | cons a as =>
      cases as with
      | nil => cases h with | cons _ r => cases r
      | cons b as =>
        cases h with
        | cons q r =>
          cases r with
          | cons q2 r2 => exact ⟨b :: a :: as, .swap _ _ _, .cons q2 (.cons q r2)⟩
  | trans _ _ ih1 ih2 =>
    intro as h
    obtain ⟨bs, p1, p2⟩ := ih2 h
    obtain ⟨cs, p3, p4⟩ := ih1 p2
    exact ⟨cs, p3.trans p1, p4⟩
/-- a pair (name, names) -/
abbrev Pr : Type := Str × List Str
def IsPr (p : Pr) : VP := fun v H => ∃ a b, v = .ref a ∧ H a = some (.tup [.str p.1, .ref b]) ∧ H b = some (.tup (p.2.map V.str))
theorem IsPr.monT {p : Pr} : MonT (IsPr p) := fun v H H' e ⟨a, b, h1, h2, h3⟩ => ⟨a, b, h1, e _ _ h2, e _ _ h3⟩
theorem prs_monT {ps : List Pr} : ∀ R ∈ ps.map IsPr, MonT R := fun R hR => by
  obtain ⟨p, _, rfl⟩ := List.mem_map.mp hR
  exact IsPr.monT
/-- lists | heads of a book -/
structure Bk where
  lists : List Pr
  heads : List Pr
structure BookAt (H : Hp) (b : Addr) (B : Bk) : Prop where
  is_ : ∃ x y z vs us, H b = some (.tup [.ref x, .ref y, z]) ∧ Fz H x vs ∧ All2 (B.lists.map IsPr) vs H ∧ H y = some (.tup us) ∧ All2 (B.heads.map IsPr) us H
theorem BookAt.mono {H H' : Hp} {b : Addr} {B : Bk} (e : Stay H H') (h : BookAt H b B) : BookAt H' b B := by
  obtain ⟨x, y, z, vs, us, h1, ⟨o, h2, h2'⟩, h3, h4, h5⟩ := h.is_
  exact ⟨x, y, z, vs, us, e.tup _ _ h1, ⟨o, e.frz _ _ _ h2, h2'⟩, All2.monT prs_monT e.tup h3, e.tup _ _ h4, All2.monT prs_monT e.tup h5⟩
/-- a sort of a book -/
def VS (L : List Pr) (s : Str) : Prop := s = "kind" ∨ s = "number" ∨ ∃ p ∈ L, p.1 = s
def BW (B : Bk) (w : Str) : Prop := ∃ p ∈ B.lists, w ∈ p.2
structure LOk (L : List Pr) : Prop where
  names : (L.map (·.1)).Nodup
  few : L.length ≤ 3
  lst : ∀ p ∈ L, p.1 ≠ "kind" ∧ p.1 ≠ "number" ∧ p.2 ≠ [] ∧ p.2.length ≤ 4 ∧ ∀ w ∈ p.2, WordOk w
structure Bk.Ok (B : Bk) : Prop where
  l : LOk B.lists
  few : B.heads.length ≤ 7
  hd : ∀ p ∈ B.heads, WordOk p.1 ∧ Thg.leafy p.1 = false ∧ p.2.length ≤ 3 ∧ ∀ s ∈ p.2, VS B.lists s
  base : ∃ p ∈ B.heads, ("kind" : Str) ∉ p.2
  nb : ∀ p ∈ B.heads, p.1 ≠ "!"
/-- the sorts of unknowns, kept in a dict at o -/
def Own (m : Int → Option Str) (H : Hp) (o : Addr) : Prop := ∃ kvs, H o = some (.dK kvs) ∧ KeyI kvs ∧ (∀ n, valV kvs (.inl n) = (m n).map V.str) ∧ ∀ n, m n ≠ none → 0 ≤ n ∧ n < 1000
theorem Own.at {m : Int → Option Str} {H H' : Hp} {o : Addr} (h : Own m H o) (e : ∀ x, H o = some x → H' o = some x) : Own m H' o := by
  obtain ⟨kvs, h1, h2⟩ := h
  exact ⟨kvs, e _ h1, h2⟩
/-- such a dict, or None -/
def OwnV (l c : Addr) (v : V) (o : Addr) (m : Int → Option Str) (H : Hp) : Prop := (v = .non ∧ o = l ∧ ∀ n, m n = none) ∨ (v = .ref o ∧ o ≠ l ∧ o ≠ c ∧ Own m H o)
theorem OwnV.off {l c o : Addr} {v : V} {m : Int → Option Str} {H : Hp} (h : OwnV l c v o m H) (hh : HandC H l c) : Off l o H := by
  rcases h with ⟨_, e, _⟩ | ⟨_, _, _, kvs, e, _⟩
  · exact ⟨hh.lst, .inl e⟩
  · exact ⟨hh.lst, .inr (.inl ⟨kvs, e⟩)⟩
theorem OwnV.exl {l c o : Addr} {v : V} {m : Int → Option Str} {H H' : Hp} (h : OwnV l c v o m H) (e : Exl l H H') : OwnV l c v o m H' := by
  rcases h with h | ⟨h1, h2, h3, h4⟩
  · exact .inl h
  · exact .inr ⟨h1, h2, h3, h4.at fun x q => e _ _ h2 q⟩
theorem OwnV.upd {l c o p : Addr} {v : V} {m : Int → Option Str} {H : Hp} {x : HO} (h : OwnV l c v o m H) (n : p ≠ o) : OwnV l c v o m (upd H p x) := by
  rcases h with h | ⟨h1, h2, h3, h4⟩
  · exact .inl h
  · exact .inr ⟨h1, h2, h3, h4.at fun y q => by rw [upd_ne (Ne.symm n)]; exact q⟩
def OwnS (L : List Pr) (m : Int → Option Str) : Prop := ∀ n s, m n = some s → VS L s
def Grown (m m' : Int → Option Str) : Prop := ∀ n s, m n = some s → m' n = some s
def Dom (m m' : Int → Option Str) (ts : List Thg) : Prop := ∀ n, m' n ≠ none ↔ (m n ≠ none ∨ n ∈ Thg.unkL ts)
theorem Grown.refl (m : Int → Option Str) : Grown m m := fun _ _ h => h
theorem Grown.trans {a b c : Int → Option Str} (h : Grown a b) (k : Grown b c) : Grown a c := fun n s e => k n s (h n s e)
theorem Dom.nil (m : Int → Option Str) : Dom m m [] := fun n => by simp [Thg.unkL, Thg.preL]
theorem Dom.closed {m : Int → Option Str} {ts : List Thg} (h : Thg.unkL ts = []) : Dom m m ts := fun n => by simp [h]
theorem Dom.app {a b c : Int → Option Str} {ts us : List Thg} (h : Dom a b ts) (k : Dom b c us) : Dom a c (ts ++ us) := fun n => by
  rw [k n, h n, Thg.unkL_app, List.mem_append, or_assoc]
def szB : Nat → Nat
  | 0 => 2
  | d + 1 => 3 * szB d + 1
theorem szB_mono {d e : Nat} (h : d ≤ e) : szB d ≤ szB e := by
  induction e with
  | zero => rw [Nat.le_zero.mp h]; exact Nat.le_refl _
  | succ e ih =>
    rcases Nat.lt_or_ge d (e + 1) with q | q
    · have := ih (by omega)
      show _ ≤ 3 * szB e + 1
      omega
    · rw [Nat.le_antisymm h q]; exact Nat.le_refl _
structure ThOk (B : Bk) (d : Nat) (t : Thg) : Prop where
  nc : t.Nc (BW B)
  sz : t.sz ≤ szB d
  dp : t.dp ≤ d + 1
theorem ThOk.up {B : Bk} {d e : Nat} {t : Thg} (h : ThOk B d t) (k : d ≤ e) : ThOk B e t := ⟨h.nc, Nat.le_trans h.sz (szB_mono k), Nat.le_trans h.dp (by omega)⟩
def unkT (n : Int) : Thg := .node "?" [.num n]
theorem unkT_unk (n : Int) : Thg.unkL [unkT n] = [n] := by simp [unkT, Thg.unkL, Thg.preL, Thg.pre, Thg.unk, Thg.leafy]
theorem wordOk_q : WordOk "?" := ⟨by decide +kernel, by decide +kernel, by decide +kernel⟩
theorem wordOk_t : WordOk "~" := ⟨by decide +kernel, by decide +kernel, by decide +kernel⟩
section
variable {K : PySem.W.Frag} {σ : L2.St} {H H1 : Hp} {J : It} {n : Nat} {G : Hp → Prop} {Y : Nat → Hp → V → Hp → Prop} {te : TE} {vs : List Nat} {j : Nat} {Dl : Addr} {Qd : Hp → Prop}
/-- what a turn of a comprehension must come to -/
def NxC (Dl : Addr) (I : Nat → List V → Hp → Prop) (i : Nat) : V → Hp → Prop := fun y H4 => ∃ acc, H4 Dl = some (.lst acc) ∧ acc.length < sizeLine ∧ ∃ ys, ys.length = i + 1 ∧ L2.upd H4 Dl (.lst (acc ++ [y])) Dl = some (.lst ys) ∧ I (i + 1) ys (L2.upd H4 Dl (.lst (acc ++ [y])))
theorem NxC.of {I : Nat → List V → Hp → Prop} {i : Nat} {ys : List V} {y : V} (hl : ys.length = i) (hi : i < 50000) (q1 : H Dl = some (.lst ys)) (q2 : I (i + 1) (ys ++ [y]) (L2.upd H Dl (.lst (ys ++ [y])))) : NxC Dl I i y H :=
  ⟨ys, q1, sz_lt (by omega), ys ++ [y], by simp [hl], upd_same, q2⟩
/-- a comprehension, by an invariant over what it has so far -/
theorem lcY (w : Walk J n G Y) (I : Nat → List V → Hp → Prop) (h0 : I 0 [] (upd H1 Dl (.lst []))) (hw : ∀ x, wipe ((wipe σ vs).set j (some x)) vs = wipe σ vs) (hG : ∀ i ys H, i ≤ n → I i ys H → G H)
    (hs : ∀ i x ys H H', i < n → ys.length = i → H Dl = some (.lst ys) → I i ys H → Y i H x H' → te ((wipe σ vs).set j (some x)) H' (NxC Dl I i)) (hd : ∀ ys H, ys.length = n → H Dl = some (.lst ys) → I n ys H → Qd H) :
    ∃ W : Nat → Nat → Hp → Prop, (∃ m, W 0 m (upd H1 Dl (.lst []))) ∧ ∀ i m H, W i m H →
      (J.stop i H ∧ Qd H) ∨ (J.go i H ∧ ∃ Nx : Hp → Prop, (∀ H', Nx H' → ∃ m', m' < m ∧ W (i + 1) m' H') ∧ ∀ x H', J.yld i H x H' → gName j x (wipe σ vs) H' fun σ2 H2 => wipe σ2 vs = wipe σ vs ∧ tYes σ2 H2 fun b H3 =>
        if b = true then te σ2 H3 fun y H4 => ∃ acc, H4 Dl = some (.lst acc) ∧ acc.length < sizeLine ∧ Nx (upd H4 Dl (.lst (acc ++ [y]))) else Nx H3) :=
  lc_it w (fun i H => ∃ ys, ys.length = i ∧ H Dl = some (.lst ys) ∧ I i ys H) ⟨[], rfl, upd_same, h0⟩ (fun i H hi ⟨ys, _, _, h⟩ => hG i ys H hi h) (fun i x H H' hi ⟨ys, hl, hd0, h⟩ hy => ⟨hw x, hs i x ys H H' hi hl hd0 h hy⟩) fun H ⟨ys, hl, hd0, h⟩ => hd ys H hl hd0 h
end
end K03
set_option maxHeartbeats 4000000
namespace LL
open PySem PySem.Spec PyProof.Rows L2 Evl
theorem pg_tupK {X : Cx} {K : PySem.W.Frag} {es : List Expr} {k : Nat} {t : TGs} {n : Nat} {pos : Pos} (hK : X.K = K) (hc : X.calm = true) (h : PGs X es t) (hn : (assignEach es X.env).length = n := by rfl) (hst : (assignEach es X.env).findIdx? (·.1) = none := by rfl) : PG X (.Tuple es k pos) (gTup K n t) := by
  subst hK
  exact pg_tup hc h hn hst
theorem ix_tupK {X : Cx} {K : PySem.W.Frag} (hK : X.K = K) : IxR X (rIxT K) := by
  subst hK
  exact ix_tup
theorem op_in_seqK {X : Cx} {K : PySem.W.Frag} (hK : X.K = K) : OpR X (compareOp .In) (rIn K false) := by
  subst hK
  exact op_in_seq
theorem op_catAK {X : Cx} {K : PySem.W.Frag} (hK : X.K = K) : OpR X (binaryOp .Add) (rCatA K) := by
  subst hK
  exact op_catA
theorem op_notIn_seqK {X : Cx} {K : PySem.W.Frag} (hK : X.K = K) : OpR X (compareOp .NotIn) (rIn K true) := by
  subst hK
  exact op_notIn_seq
section
variable {K : PySem.W.Frag} {σ : L2.St} {H : Hp} {ta tb : TE} {xs ys : List V} {tr : TA} {Rs : List VP}
theorem el_catN (h1 : EvL ta σ H xs) (h2 : EvL tb σ H ys) (hl : xs.length + ys.length ≤ 100000) : EvL (tOp rCat ta tb) σ H (xs ++ ys) := fun H1 e Q q =>
  h1 H1 e _ fun p H2 hp e2 h3 => h2 H2 (e.trans e2) _ fun r H3 hr e3 h4 => ⟨p, r, xs, ys, rfl, rfl, e3 _ _ h3, h4, sz_of hl, fun z hz => q z _ (fresh_back (e2.trans e3) hz) ((e2.trans e3).trans (Ex.new hz)) upd_same⟩
/-- a new list, told by relations -/
def LstN (H0 : Hp) (Rs : List VP) : VP := fun v H => ∃ p vs, v = .ref p ∧ H0 p = none ∧ H p = some (.lst vs) ∧ All2 Rs vs H
theorem x_lstN (m : Mons Rs) (hl : Rs.length ≤ 100000) (h : EvXA tr σ H Rs) : EvX (tLst tr) σ H (LstN H Rs) := fun H1 e Q q =>
  h H1 e _ fun vs H2 e2 rs => ⟨sz_of (by rw [← rs.len]; exact hl), fun p hp => q _ _ (e2.trans (Ex.new hp)) ⟨p, vs, rfl, fresh_back (e.trans e2) hp, upd_same, rs.mono m (Ex.new hp)⟩⟩
theorem if_and {t u : TT} {Q : VK} {b : Bool} (h : EvT t σ H b) (h1 : b = true → ∀ H1, Ex H H1 → tIf u ta tb σ H1 Q) (h2 : b = false → ∀ H1, Ex H H1 → tb σ H1 Q) : tIf (tAnd t u) ta tb σ H Q := h H (Ex.refl H) _ fun H1 e => by
  cases b with
  | true => exact h1 rfl H1 e
  | false => exact h2 rfl H1 e
theorem ifS_and {t u : TT} {su sw : TS} {D : Ends} {b : Bool} (h : EvT t σ H b) (h1 : b = true → ∀ H1, Ex H H1 → tIfS u su sw D σ H1) (h2 : b = false → ∀ H1, Ex H H1 → sw D σ H1) : tIfS (tAnd t u) su sw D σ H := h H (Ex.refl H) _ fun H1 e => by
  cases b with
  | true => exact h1 rfl H1 e
  | false => exact h2 rfl H1 e
theorem q_ifand {t u : TT} {su sw tz : TS} {D : Ends} {b : Bool} (h : EvT t σ H b) (h1 : b = true → ∀ H1, Ex H H1 → tSeq (tIfS u su sw) tz D σ H1) (h2 : b = false → ∀ H1, Ex H H1 → tSeq sw tz D σ H1) : tSeq (tIfS (tAnd t u) su sw) tz D σ H := ifS_and (D := { D with nx := tz D }) h h1 h2
theorem q_asgQ {te : TE} {i : Nat} {D : Ends} {tz : TS} (h : te σ H fun v H1 => tz D (σ.set i (some v)) H1) : tSeq (tAsg te (gName i)) tz D σ H := h
theorem s_asgQ {te : TE} {i : Nat} {D : Ends} (h : te σ H fun v H1 => D.nx (σ.set i (some v)) H1) : tAsg te (gName i) D σ H := h
theorem q_asgG {g : TG} {te : TE} {R : VP} {D : Ends} {tz : TS} (h : EvX te σ H R) (k : ∀ v H1, Ex H H1 → R v H1 → g v σ H1 fun σ' H' => tz D σ' H') : tSeq (tAsg te g) tz D σ H := h H (Ex.refl H) _ k
end
end LL
set_option maxHeartbeats 16000000
/-! Drawn books, drawn sorts. -/
namespace K03
open PySem PySem.Spec PyProof.Rows L2 Evl LL
def flags : Pr := ("flag", ["yes", "no"])
def sizes : Pr := ("size", ["s", "m", "l"])
def days : Pr := ("day", ["mon", "tue", "wed", "thu"])
section
variable {K : PySem.W.Frag} {σ : L2.St} {H : Hp} {ta tb : TE} {tr : TA} {Rs : List VP} {l c a : Addr} {E : XK} {L : List Pr} {vs : List V} {j1 j2 : Nat} {ws : List Nat} {tl : TE}
theorem x_pr {ta : TA} (p : Pr) (h : EvA ta σ H (p.2.map V.str)) (hl : p.2.length ≤ 1000) : EvX (tTup (tCons (tC (.str p.1)) (tCons (tTup ta) tNil))) σ H (IsPr p) := fun H1 e Q q =>
  h H1 e _ fun H2 e2 => ⟨sz_of (by rw [List.length_map]; omega), fun b hb => ⟨by show 2 ≤ sizeLine; decide, fun a ha => q _ _ (e2.trans ((Ex.new hb).trans (Ex.new ha))) ⟨a, b, rfl, upd_same, (Ex.new ha) _ _ upd_same⟩⟩⟩
def FzL (L : List Pr) : VP := fun v H => ∃ x vs, v = .ref x ∧ Fz H x vs ∧ All2 (L.map IsPr) vs H
theorem FzL.monS {L : List Pr} : MonS (FzL L) := fun v H H' e ⟨x, vs, h1, ⟨o, h2, h3⟩, h4⟩ => ⟨x, vs, h1, ⟨o, e.frz _ _ _ h2, h3⟩, All2.monT prs_monT e.tup h4⟩
theorem prs_mons {ps : List Pr} : Mons (ps.map IsPr) := fun R hR => (MonS.ofT (prs_monT R hR)).mon
theorem x_tupF (L : List Pr) (hl : L.length ≤ 1000) (h : EvXA tr σ H (L.map IsPr)) : EvX (tTupF tr) σ H (FzL L) := fun H1 e Q q =>
  h H1 e _ fun vs H2 e2 rs => ⟨sz_of (by have := rs.len; rw [List.length_map] at this; omega), fun p o hp po => q _ _ (e2.trans (Ex.new hp)) ⟨p, vs, rfl, ⟨o, upd_same, po⟩, rs.mono prs_mons (Ex.new hp)⟩⟩
/-- one of some new things -/
theorem d_some {Q : VK} (h0 : σ[0]? = some (some (.ref l))) (ms : ∀ R ∈ Rs, MonS R) (hl : EvX tb σ H (LstN H Rs)) (ne : Rs ≠ []) (le : Rs.length ≤ 1000) (hh : HandC H l c) (k : ∀ v H2, Exl l H H2 → HandC H2 l c → (∃ R ∈ Rs, R v H2) → Q v H2) :
    tCall spSome [] E (tCons (tVar 0) (tCons tb tNil)) σ H Q :=
  ⟨.ref l, h0, hl H (Ex.refl H) _ fun v H1 e1 ⟨p, xs, ev, pn, hp, hx⟩ => ⟨l, c, p, xs, by rw [ev]; rfl, (hh.new pn).1, .inl hp, (fun z => by subst z; cases hx; exact ne rfl), (by have := hx.len; omega), hh.mono e1,
    fun u H2 hu ex hh2 => k u H2 ((Exl.of e1).trans ex) hh2 (by obtain ⟨R, hR, r⟩ := all2_mem hx hu; exact ⟨R, hR, ms R hR _ _ _ ((hh.mono e1).stay ex) r⟩)⟩⟩
/-- [a for a, b in pairs] -/
theorem el_lcNames (hp : Ev tl σ H (.ref a)) (hx : SqT K H a vs) (ha : All2 (L.map IsPr) vs H) (hz : L.length ≤ 1000) (h1 : ∀ x y, wipe (((wipe σ ws).set j1 (some x)).set j2 (some y)) ws = wipe σ ws) (h2 : ∀ x y, (((wipe σ ws).set j1 (some x)).set j2 (some y))[j1]? = some (some x)) :
    EvL (tLc (iTup K tl) (gTup K 2 (gCons (gName j1) (gCons (gName j2) gNil))) tYes (tVar j1) ws) σ H (L.map fun p => .str p.1) := fun H0 e Q q => hp H0 e _ fun H1 e1 => ⟨a, rfl, ⟨vs, ex_t (e.trans e1) hx⟩, fun Dl hD => by
  have ln : vs.length = L.length := by rw [← ha.len, List.length_map]
  refine lc_it (walk_tup (xs := vs)) (Cw H1 (fun _ => true) (fun i => .str ((L[i]?.map (·.1)).getD "")) Dl) ⟨hD, Ex.new hD, upd_same⟩ (fun i H' _ pv => ex_t ((e.trans e1).trans pv.2.1) hx) (fun i x H' H'' hi pv y => ?_) (fun H' pv => ?_)
  · obtain ⟨rfl, hi2⟩ := y
    obtain ⟨R, hR, r⟩ := all2_get ha hi2
    rw [List.getElem?_map] at hR
    obtain ⟨p, hp2, rfl⟩ := Option.map_eq_some_iff.mp hR
    obtain ⟨p1, p2, p3⟩ := pv
    obtain ⟨a2, b2, rfl, g1, g2⟩ := r
    have ee := (e.trans e1).trans p2
    refine ⟨a2, _, rfl, st_of (ee _ _ g1), rfl, _, _, rfl, _, _, rfl, rfl, h1 _ _, cw_turn ⟨p1, p2, p3⟩ (by omega) (fun H2 _ Q2 q2 => q2 H2 (Ex.refl H2)) (fun _ => ?_)⟩
    refine ev_is (ev_var (h2 _ _)) ?_
    rw [hp2]
    rfl
  · obtain ⟨p1, p2, p3⟩ := pv
    have e3 : given vs.length (fun _ => true) (fun i => V.str ((L[i]?.map (·.1)).getD "")) = L.map fun p => .str p.1 := by
      unfold given
      rw [List.filter_eq_self.mpr (fun _ _ => rfl), ln]
      refine List.ext_getElem? fun i => ?_
      rw [List.getElem?_map, List.getElem?_map]
      by_cases hi : i < L.length
      · rw [List.getElem?_range hi]
        simp [hi]
      · rw [List.getElem?_eq_none (by simp; omega), List.getElem?_eq_none (by omega)]
        rfl
    rw [e3] at p3
    exact q Dl H' (fresh_back e1 p1) (e1.trans p2) p3⟩
end
theorem lOk_some : ∀ L ∈ [[], [flags], [sizes, flags], [days, sizes], [flags, days, sizes]], LOk L := by
  have f : ∀ p ∈ [flags, sizes, days], p.1 ≠ "kind" ∧ p.1 ≠ "number" ∧ p.2 ≠ [] ∧ p.2.length ≤ 4 ∧ ∀ w ∈ p.2, WordOk w := by
    unfold WordOk
    decide +kernel
  have g : ∀ L ∈ [[], [flags], [sizes, flags], [days, sizes], [flags, days, sizes]], ∀ p ∈ L, p ∈ [flags, sizes, days] := by decide +kernel
  intro L hL
  have sub := g L hL
  refine ⟨?_, ?_, fun p hp => f p (sub p hp)⟩
  · simp only [List.mem_cons, List.not_mem_nil, or_false] at hL
    rcases hL with rfl | rfl | rfl | rfl | rfl <;> decide +kernel
  · simp only [List.mem_cons, List.not_mem_nil, or_false] at hL
    rcases hL with rfl | rfl | rfl | rfl | rfl <;> decide

def spBook : Sp := fun vs H Q _ => ∃ l c, vs = [.ref l] ∧ HandC H l c ∧ ∀ b B H', BookAt H' b B → B.Ok → Exl l H H' → HandC H' l c → Q (.ref b) H'
structure Fbk (P : Program) (w : World) (K : PySem.W.Frag) (mg : Str → Option Value) (base : Heap) : Prop where
  range : mg "range" = none
  tuple : mg "tuple" = none
  h_law_draw : Has P w K mg base CX0 "_law_draw" 1 ["hand", "many"] spDraw
  h_law_some : Has P w K mg base CX0 "_law_some" 2 ["hand", "things"] spSome
  h_law_mixed : Has P w K mg base CX0 "_law_mixed" 2 ["hand", "things"] spMixed
def hd0 : List Pr := [("int", []), ("ptr", ["kind"]), ("pair", ["kind", "kind"])]
def hdN : List Str := ["bit", "arr", "kind", "flag"]
/-- heads drawn so far -/
def HdOk (L : List Pr) (hs : List Pr) : Prop := (∀ p ∈ hs, WordOk p.1 ∧ Thg.leafy p.1 = false ∧ p.2.length ≤ 3 ∧ ∀ s ∈ p.2, VS L s) ∧ (∃ p ∈ hs, ("kind" : Str) ∉ p.2) ∧ ∀ p ∈ hs, p.1 ≠ "!"
theorem hdOk_0 {L : List Pr} : HdOk L hd0 := by
  have f : ∀ p ∈ hd0, WordOk p.1 ∧ Thg.leafy p.1 = false ∧ p.2.length ≤ 3 ∧ ∀ s ∈ p.2, s = "kind" := by
    unfold WordOk
    decide +kernel
  refine ⟨fun p hp => ⟨(f p hp).1, (f p hp).2.1, (f p hp).2.2.1, fun s hs => .inl ((f p hp).2.2.2 s hs)⟩, ⟨("int", []), List.mem_cons_self, List.not_mem_nil⟩, by decide⟩
theorem hdN_nb : ∀ n ∈ hdN, n ≠ "!" := by decide
theorem hdN_ok : ∀ n ∈ hdN, WordOk n ∧ Thg.leafy n = false := by
  unfold WordOk
  decide +kernel
section
variable {P : Program} {w : World} {K : PySem.W.Frag} {mg : Str → Option Value} {base : Heap} {f : Addr} {fd : FuncData}
theorem scBook : FnScope ["hand", "lists", "sorts", "heads", "name", "flags", "sizes", "days", "words", "part"] ["hand"] (defScope (top 17)) := ⟨rfl, rfl, rfl, by decide +kernel, rfl, by decide +kernel, by decide +kernel⟩
theorem ok_book (F : FnT K "_law_book" (top 17) f fd) (T : Fbk P w K mg base) : FnOk P w K mg base CX0 3 f fd ["hand"] spBook := by
  have sc := scBook
  refine F.ok scBook (fun vs H Q E h => ?_) (fun cdv A outer s H vs Q E hr h => ?_)
  · obtain ⟨_, _, rfl, _⟩ := h
    rfl
  refine ⟨_, PSs.nox (pss_cons (ps_asg (pe_tup (pa_cons (pe_tup (pa_cons pe_str (pa_cons (pe_tup (pa_cons pe_str (pa_cons pe_str pa_nil))) pa_nil))) (pa_cons (pe_tup (pa_cons pe_str (pa_cons (pe_tup (pa_cons pe_str (pa_cons pe_str (pa_cons pe_str pa_nil)))) pa_nil))) (pa_cons (pe_tup (pa_cons pe_str (pa_cons (pe_tup (pa_cons pe_str (pa_cons pe_str (pa_cons pe_str (pa_cons pe_str pa_nil))))) pa_nil))) pa_nil)))) (pg_tup rfl (pgs_cons (pg_name (i := 5) sc.nd rfl (Or.inl rfl)) (pgs_cons (pg_name (i := 6) sc.nd rfl (Or.inl rfl)) (pgs_cons (pg_name (i := 7) sc.nd rfl (Or.inl rfl)) pgs_nil)))))
      (pss_cons (ps_set (i := 1) sc.nd rfl (Or.inl rfl) (pe_callH T.h_law_some hr pass0 (pa_cons (pv 0) (pa_cons (pe_lst (pa_cons (pe_tupF pa_nil) (pa_cons (pe_tupF (pa_cons (pv 5) pa_nil)) (pa_cons (pe_tupF (pa_cons (pv 6) (pa_cons (pv 5) pa_nil))) (pa_cons (pe_tupF (pa_cons (pv 7) (pa_cons (pv 6) pa_nil))) (pa_cons (pe_tupF (pa_cons (pv 5) (pa_cons (pv 7) (pa_cons (pv 6) pa_nil)))) pa_nil)))))) pa_nil))))
      (pss_cons (ps_set (i := 2) sc.nd rfl (Or.inr rfl) (pe_op op_cat (pe_lst (pa_cons pe_str (pa_cons pe_str (pa_cons pe_str pa_nil)))) (pe_lc (own := [("name", 4), ("words", 8)]) (tt := tYes) rfl sc.nd (pi_tup (pv 1)) (blkOk_by (N := ["hand", "lists", "sorts", "heads", "name", "flags", "sizes", "days", "words", "part"]) (sc := defScope (top 17)) (by decide +kernel)) (fun _ _ _ _ _ => by exact (pg_tupK (K := K) (n := 2) rfl rfl (pgs_cons (pg_name (i := 4) sc.nd rfl (Or.inl rfl)) (pgs_cons (pg_name (i := 8) sc.nd rfl (Or.inl rfl)) pgs_nil)))) (fun _ _ _ _ _ => pts_nil) (fun _ _ _ _ _ => (pv 4)))))
      (pss_cons (ps_set (i := 3) sc.nd rfl (Or.inl rfl) (pe_lst (pa_cons (pe_tup (pa_cons pe_str (pa_cons (pe_tup pa_nil) pa_nil))) (pa_cons (pe_tup (pa_cons pe_str (pa_cons (pe_tup (pa_cons pe_str pa_nil)) pa_nil))) (pa_cons (pe_tup (pa_cons pe_str (pa_cons (pe_tup (pa_cons pe_str (pa_cons pe_str pa_nil))) pa_nil))) pa_nil)))))
      (pss_cons (ps_for PassesOwn.never rfl (pi_list (pe_slice sl_list (pe_lst (pa_cons pe_str (pa_cons pe_str (pa_cons pe_str (pa_cons pe_str pa_nil))))) po_none (po_some (pe_callH T.h_law_draw hr pass0 (pa_cons (pv 0) (pa_cons pe_int pa_nil)))))) (pg_name (i := 4) sc.nd rfl (Or.inl rfl)) (pss_one (ps_expr (pe_bm PySem.F.plainAttrs_list PySem.F.slot_list_append PySem.F.type_list_append mt_append (pv 3) (pa_cons (pe_tup (pa_cons (pv 4) (pa_cons (pe_callTy call_tuple_of (by rfl) T.tuple (by decide +kernel) (pa_cons (pe_lc (own := [("part", 9)]) (tt := tYes) rfl sc.nd (pi_range1 (by rfl) T.range (pa_cons (pe_callH T.h_law_draw hr pass0 (pa_cons (pv 0) (pa_cons pe_int pa_nil))) pa_nil)) (blkOk_by (N := ["hand", "lists", "sorts", "heads", "name", "flags", "sizes", "days", "words", "part"]) (sc := defScope (top 17)) (by decide +kernel)) (fun _ _ _ _ _ => (pg_name (i := 9) sc.nd rfl (Or.inl rfl))) (fun _ _ _ _ _ => pts_nil) (fun _ _ _ _ _ => (pe_callH T.h_law_some hr pass0 (pa_cons (pv 0) (pa_cons (pv 2) pa_nil))))) pa_nil)) pa_nil))) pa_nil)))))
      (pss_one (ps_ret (pe_tup (pa_cons (pv 1) (pa_cons (pe_callTy call_tuple_of (by rfl) T.tuple (by decide +kernel) (pa_cons (pe_callH T.h_law_mixed hr pass0 (pa_cons (pv 0) (pa_cons (pv 3) pa_nil))) pa_nil)) (pa_cons (pe_slice sl_tupA (pe_tup (pa_cons pe_str (pa_cons pe_str (pa_cons pe_str pa_nil)))) po_none (po_some (pe_callH T.h_law_draw hr pass0 (pa_cons (pv 0) (pa_cons pe_int pa_nil))))) pa_nil))))))))))), ?_⟩
  obtain ⟨l, c, rfl, hh, k⟩ := h
  refine q_asgG (R := TupOf ([flags, sizes, days].map IsPr)) (x_tup prs_mons (by show 3 ≤ 100000; decide) (xa_cons (MonS.ofT IsPr.monT).mon (x_pr flags (ea_cons ev_c (ea_cons ev_c ea_nil)) (by decide)) (xa_cons (MonS.ofT IsPr.monT).mon (x_pr sizes (ea_cons ev_c (ea_cons ev_c (ea_cons ev_c ea_nil))) (by decide)) (xa_cons (MonS.ofT IsPr.monT).mon (x_pr days (ea_cons ev_c (ea_cons ev_c (ea_cons ev_c (ea_cons ev_c ea_nil)))) (by decide)) xa_nil)))) fun v H1 e1 h1 => ?_
  obtain ⟨p, vs, rfl, hp, hx⟩ := h1
  cases hx with
  | cons i1 hx =>
    cases hx with
    | cons i2 hx =>
      cases hx with
      | cons i3 hx =>
        cases hx
        refine ⟨p, _, rfl, st_of hp, rfl, _, _, rfl, _, _, rfl, _, _, rfl, rfl, ?_⟩
        have m := (MonS.ofT (R := IsPr flags) IsPr.monT).mon
        have m2 := (MonS.ofT (R := IsPr sizes) IsPr.monT).mon
        have m3 := (MonS.ofT (R := IsPr days) IsPr.monT).mon
        refine q_asgQ (d_some (Rs := [FzL [], FzL [flags], FzL [sizes, flags], FzL [days, sizes], FzL [flags, days, sizes]]) rfl ?_ (x_lstN ?_ (by show 5 ≤ 100000; decide) (xa_cons FzL.monS.mon (x_tupF [] (by decide) xa_nil) (xa_cons FzL.monS.mon (x_tupF [flags] (by decide) (xa_cons m (x_var m rfl i1) xa_nil))
          (xa_cons FzL.monS.mon (x_tupF [sizes, flags] (by decide) (xa_cons m2 (x_var m2 rfl i2) (xa_cons m (x_var m rfl i1) xa_nil))) (xa_cons FzL.monS.mon (x_tupF [days, sizes] (by decide) (xa_cons m3 (x_var m3 rfl i3) (xa_cons m2 (x_var m2 rfl i2) xa_nil)))
          (xa_cons FzL.monS.mon (x_tupF [flags, days, sizes] (by decide) (xa_cons m (x_var m rfl i1) (xa_cons m3 (x_var m3 rfl i3) (xa_cons m2 (x_var m2 rfl i2) xa_nil)))) xa_nil)))))) (by simp) (by show 5 ≤ 1000; decide) (hh.mono e1) fun v H2 e2 hh2 hv => ?_)
        · intro R hR
          simp only [List.mem_cons, List.not_mem_nil, or_false] at hR
          rcases hR with rfl | rfl | rfl | rfl | rfl <;> exact FzL.monS
        · intro R hR
          simp only [List.mem_cons, List.not_mem_nil, or_false] at hR
          rcases hR with rfl | rfl | rfl | rfl | rfl <;> exact FzL.monS.mon
        obtain ⟨L, hL, x, ys, rfl, fz, ax⟩ : ∃ L, LOk L ∧ FzL L v H2 := by
          obtain ⟨R, hR, r⟩ := hv
          simp only [List.mem_cons, List.not_mem_nil, or_false] at hR
          rcases hR with rfl | rfl | rfl | rfl | rfl
          · exact ⟨_, lOk_some _ (by simp), r⟩
          · exact ⟨_, lOk_some _ (by simp), r⟩
          · exact ⟨_, lOk_some _ (by simp), r⟩
          · exact ⟨_, lOk_some _ (by simp), r⟩
          · exact ⟨_, lOk_some _ (by simp), r⟩
        have x02 : Exl l H H2 := (Exl.of e1).trans e2
        refine q_asgL (el_catN (el_lst (ea_cons ev_c (ea_cons ev_c (ea_cons ev_c ea_nil))) (by show 3 ≤ 100000; decide)) (el_lcNames (ev_var rfl) fz.sq ax (Nat.le_trans hL.few (by decide)) (fun _ _ => rfl) (fun _ _ => rfl)) (by rw [List.length_map]; have := hL.few; show 3 + _ ≤ _; omega)) fun srt H3 nsrt e3 hsrt => ?_
        have hh3 := hh2.mono e3
        refine q_asgG (R := LstN H3 (hd0.map IsPr)) (x_lstN prs_mons (by show 3 ≤ 100000; decide) (xa_cons (MonS.ofT IsPr.monT).mon (x_pr ("int", []) ea_nil (by decide)) (xa_cons (MonS.ofT IsPr.monT).mon (x_pr ("ptr", ["kind"]) (ea_cons ev_c ea_nil) (by decide)) (xa_cons (MonS.ofT IsPr.monT).mon (x_pr ("pair", ["kind", "kind"]) (ea_cons ev_c (ea_cons ev_c ea_nil)) (by decide)) xa_nil)))) fun v H4 e4 h4 => ?_
        obtain ⟨hd, us0, rfl, nhd, hhd, ahd⟩ := h4
        have hh4 := hh3.mono e4
        obtain ⟨hdl, hdc⟩ := hh3.new nhd
        obtain ⟨sl, sc_⟩ := hh2.new nsrt
        have hsrt4 := e4 _ _ hsrt
        have hds : hd ≠ srt := fun z => by rw [z, hsrt] at nhd; cases nhd
        have x04 : Exl l H H4 := x02.trans ((Exl.of e3).trans (Exl.of e4))
        have st4 : Stay H2 H4 := Stay.ex (e3.trans e4)
        have fz4 : Fz H4 x ys := by
          obtain ⟨o, q1, q2⟩ := fz
          exact ⟨o, st4.frz _ _ _ q1, q2⟩
        have ax4 : All2 (L.map IsPr) ys H4 := All2.monT prs_monT st4.tup ax
        dsimp only [gName]
        have hlen : L.length ≤ 3 := hL.few
        refine ⟨by show 4 ≤ sizeLine; decide, fun nm nnm => ?_⟩
        have e5 := Ex.new (o := .lst (hdN.map V.str)) nnm
        have hnm : L2.upd H4 nm (.lst (hdN.map V.str)) nm = some (.lst (hdN.map V.str)) := upd_same
        have hh5 := hh4.mono e5
        refine ⟨_, rfl, l, c, 5, rfl, by decide, by decide, hh5, fun f1 H6 _ _ e6 hh6 => ⟨f1, rfl, ?_⟩⟩
        obtain ⟨nl5, nc5⟩ := hh4.new nnm
        refine ⟨nm, hdN.map V.str, rfl, sq_of (e6 _ _ nl5 hnm), fun lp hlp => ⟨lp, rfl, ⟨_, sq_of upd_same⟩, ?_⟩⟩
        obtain ⟨lpl, lpc⟩ := hh6.new hlp
        obtain ⟨ns, ens, sns⟩ : ∃ ns : List Str, cutV (hdN.map V.str) none (some f1) = ns.map V.str ∧ (∀ n ∈ ns, n ∈ hdN) ∧ ns.length ≤ 4 := by
          refine ⟨(hdN.drop (HT.sIx (hdN.map V.str).length 0 none)).take (HT.sIx (hdN.map V.str).length (hdN.map V.str).length (some f1) - HT.sIx (hdN.map V.str).length 0 none), ?_, fun n hn => List.mem_of_mem_drop (List.mem_of_mem_take hn), ?_⟩
          · unfold cutV
            rw [List.map_take, List.map_drop]
          · rw [List.length_take, List.length_drop]
            show min _ (4 - _) ≤ 4
            omega
        rw [ens]
        have hds6 : lp ≠ hd := fun z => by
          have := e6 _ _ hdl (e5 _ _ hhd)
          rw [← z, hlp] at this
          cases this
        have hss6 : lp ≠ srt := fun z => by
          have := e6 _ _ sl (e5 _ _ hsrt4)
          rw [← z, hlp] at this
          cases this
        have e56 : Exl l H4 H6 := (Exl.of e5).trans e6
        have hh7 := hh6.own (o := .lst (ns.map V.str)) lpl lpc
        have x47 : Exo l hd H4 (L2.upd H6 lp (.lst (ns.map V.str))) := (Exo.of e56).trans (Exo.ex (Ex.new hlp))
        have hlp7 : L2.upd H6 lp (.lst (ns.map V.str)) lp = some (.lst (ns.map V.str)) := upd_same
        have hd7 : L2.upd H6 lp (.lst (ns.map V.str)) hd = some (.lst us0) := by rw [upd_ne (Ne.symm hds6)]; exact e6 _ _ hdl (e5 _ _ hhd)
        have sr7 : L2.upd H6 lp (.lst (ns.map V.str)) srt = some (.lst (([.str "kind", .str "kind", .str "number"] : List V) ++ L.map fun p => .str p.1)) := by rw [upd_ne (Ne.symm hss6)]; exact e6 _ _ sl (e5 _ _ hsrt4)
        revert hh7 x47 hlp7 hd7 sr7
        generalize L2.upd H6 lp (.lst (ns.map V.str)) = H7
        intro hh7 x47 hlp7 hd7 sr7
        have st47 : Stay H4 H7 := x47.stay ⟨hh4.lst, .inr (.inr ⟨_, hhd⟩)⟩
        have a7 : All2 (hd0.map IsPr) us0 H7 := All2.monT prs_monT st47.tup ahd
        refine for_it (walk_list (xs := ns.map V.str)) (fun i σ' H' => ∃ y v5 v6 v7 us hs, σ' = [some (.ref l), some (.ref x), some (.ref srt), some (.ref hd), y, v5, v6, v7, none, none] ∧ Exo l hd H7 H' ∧ HandC H' l c ∧ H' hd = some (.lst us) ∧ All2 (hs.map IsPr) us H' ∧ us.length = 3 + i ∧ HdOk L hs) ?_ ?_ ?_ ?_
        · exact ⟨_, _, _, _, us0, hd0, rfl, Exo.refl _ _ _, hh7, hd7, a7, (by have := a7.len; rw [← this]; rfl), hdOk_0⟩
        · rintro i σ' H' hi ⟨y, v5, v6, v7, us, hs, rfl, ex, hh8, h8, a8, l8, ok⟩
          exact sq_of (ex _ _ lpl hds6 hlp7)
        · rintro i nv σ' H' H'' hi ⟨y, v5, v6, v7, us, hs, rfl, ex, hh8, h8, a8, l8, ok⟩ ⟨rfl, hx⟩
          rw [List.length_map] at hi
          rw [List.getElem?_map] at hx
          obtain ⟨n, hn, rfl⟩ := Option.map_eq_some_iff.mp hx
          have nok := hdN_ok n (sns.1 n (List.mem_of_getElem? hn))
          have nnb := hdN_nb n (sns.1 n (List.mem_of_getElem? hn))
          have sr8 := ex _ _ sl (Ne.symm hds) sr7
          refine ⟨_, rfl, .inl ⟨rfl, _, sq_of h8⟩, _, rfl, _, rfl, l, c, 4, rfl, by decide, by decide, hh8, fun f2 H9 g0 g1 e9 hh9 => ⟨f2, rfl, by omega, by omega, fun Dl hD => ?_⟩⟩
          obtain ⟨dl, dc⟩ := hh9.new hD
          have sr9 := e9 _ _ sl sr8
          have h9 := e9 _ _ hdl h8
          have st89 : Stay H'' H9 := hh8.stay e9
          refine lcY walk_range (fun j zs G => ∃ ss : List Str, zs = ss.map V.str ∧ (∀ s ∈ ss, VS L s) ∧ Exl l H9 G ∧ HandC G l c) ?_ (fun _ => rfl) (fun _ _ _ _ _ => trivial) ?_ ?_
          · exact ⟨[], rfl, nofun, Exl.own (Exl.refl l H9) hD, hh9.own dl dc⟩
          · rintro j z zs G G' hj lz hDl ⟨ss, rfl, hss, exg, hhg⟩ ⟨rfl, _⟩
            have srg := exg _ _ sl sr9
            refine ⟨_, rfl, _, rfl, l, c, srt, _, rfl, sl, .inl srg, by simp, by simp; omega, hhg, fun u G2 hu e10 hh10 => ?_⟩
            have hs1 : ∃ s, u = .str s ∧ VS L s := by
              simp only [List.cons_append, List.nil_append, List.mem_cons, List.mem_map] at hu
              rcases hu with rfl | rfl | rfl | ⟨p, hp, rfl⟩
              · exact ⟨_, rfl, .inl rfl⟩
              · exact ⟨_, rfl, .inl rfl⟩
              · exact ⟨_, rfl, .inr (.inl rfl)⟩
              · exact ⟨_, rfl, .inr (.inr ⟨p, hp, rfl⟩)⟩
            obtain ⟨s1, rfl, vs1⟩ := hs1
            refine NxC.of lz (by omega) (e10 _ _ dl hDl) ⟨ss ++ [s1], by simp, fun s hs2 => ?_, Exl.own (exg.trans e10) hD, hh10.own dl dc⟩
            rcases List.mem_append.mp hs2 with q | q
            · exact hss s q
            · rw [List.mem_singleton.mp q]
              exact vs1
          · rintro zs G lz hDl ⟨ss, rfl, hss, exg, hhg⟩
            rw [List.length_map] at lz
            refine ⟨Dl, _, rfl, .inl ⟨sq_of hDl, fun tp htp => ⟨by show 2 ≤ sizeLine; decide, fun a ha => ?_⟩⟩⟩
            have hg9 := exg _ _ hdl h9
            have ha0 : G a = none := fresh_back (Ex.new htp) ha
            have xg : Ex G (L2.upd (L2.upd G tp (.tup (ss.map V.str))) a (.tup [.str n, .ref tp])) := (Ex.new htp).trans (Ex.new ha)
            refine ⟨hd, us, .ref a, rfl, rfl, xg _ _ hg9, sz_lt (by omega), ?_⟩
            have stg : Stay H'' (L2.upd (L2.upd (L2.upd G tp (.tup (ss.map V.str))) a (.tup [.str n, .ref tp])) hd (.lst (us ++ [.ref a]))) := (st89.trans ((hh9.stay exg).trans (Stay.ex xg))).trans (Stay.lst (xg _ _ hg9))
            refine ⟨_, v5, v6, v7, us ++ [.ref a], hs ++ [(n, ss)], rfl, (ex.trans (Exo.of (e9.trans (exg.trans (Exl.of xg))))).trans Exo.upd, (hhg.mono xg).own hdl hdc, upd_same, ?_, by simp; omega, ?_⟩
            · rw [List.map_append]
              refine All2.app (All2.monT prs_monT stg.tup a8) (.cons ⟨a, tp, rfl, ?_, ?_⟩ .nil)
              · rw [upd_ne (fun z => by rw [z, hg9] at ha0; cases ha0)]
                exact upd_same
              · rw [upd_ne (fun z => by rw [z, hg9] at htp; cases htp)]
                exact (Ex.new ha) _ _ upd_same
            · refine ⟨fun p hp => ?_, ?_, fun p hp => ?_⟩
              · rcases List.mem_append.mp hp with q | q
                · exact ok.1 p q
                · rw [List.mem_singleton.mp q]
                  exact ⟨nok.1, nok.2, by show ss.length ≤ 3; omega, hss⟩
              · obtain ⟨p, hp, q⟩ := ok.2.1
                exact ⟨p, List.mem_append_left _ hp, q⟩
              · rcases List.mem_append.mp hp with q | q
                · exact ok.2.2 p q
                · rw [List.mem_singleton.mp q]
                  exact nnb
        · rintro σ' H' ⟨y, v5, v6, v7, us, hs, rfl, ex, hh8, h8, a8, l8, ok⟩
          rw [List.length_map] at l8
          have hl8 : us.length ≤ 7 := by have := sns.2; omega
          refine ⟨_, rfl, _, rfl, _, rfl, l, c, hd, us, rfl, hdl, h8, by omega, hh8, fun q zs H9 pm nq e9 hh9 hq => ⟨q, zs, rfl, .inl ⟨sq_of hq, fun tp htp => ?_⟩⟩⟩
          have st79 : Stay H4 H9 := (st47.trans (ex.stay ⟨hh7.lst, .inr (.inr ⟨_, hd7⟩)⟩)).trans (hh8.stay e9)
          obtain ⟨hs2, pm2, a9⟩ := all2_permF IsPr pm a8
          have a9 : All2 (hs2.map IsPr) zs H9 := All2.monT prs_monT (hh8.stay e9).tup a9
          have fin : ∀ (G : Hp) (zv : V), Stay (L2.upd H9 tp (.tup zs)) G → Exl l (L2.upd H9 tp (.tup zs)) G → HandC G l c → ([.ref x, .ref tp, zv] : List V).length ≤ sizeLine ∧ ∀ b, G b = none → Q (.ref b) (L2.upd G b (.tup [.ref x, .ref tp, zv])) := by
            intro G zv st eg hg
            refine ⟨by show 3 ≤ sizeLine; decide, fun b hb => ?_⟩
            have stb : Stay H4 (L2.upd G b (.tup [.ref x, .ref tp, zv])) := ((st79.trans (Stay.new htp)).trans st).trans (Stay.new hb)
            refine k b ⟨L, hs2⟩ _ ⟨x, tp, zv, ys, zs, upd_same, ?_, All2.monT prs_monT stb.tup ax4, (Stay.new hb).tup _ _ (st.tup _ _ upd_same), All2.monT prs_monT (((Stay.new htp).trans st).trans (Stay.new hb)).tup a9⟩ ⟨hL, ?_, fun p hp => ok.1 p (pm2.mem_iff.mp hp), ?_, fun p hp => ok.2.2 p (pm2.mem_iff.mp hp)⟩ ?_ (hg.mono (Ex.new hb))
            · obtain ⟨o, q1, q2⟩ := fz4
              exact ⟨o, stb.frz _ _ _ q1, q2⟩
            · show hs2.length ≤ 7
              rw [pm2.length_eq]
              have := a8.len
              rw [List.length_map] at this
              omega
            · obtain ⟨p, hp, q⟩ := ok.2.1
              exact ⟨p, pm2.mem_iff.mpr hp, q⟩
            · have o7 : H hd = none := by
                have nl : Exl l H H3 := x02.trans (Exl.of e3)
                cases hq0 : H hd with
                | none => rfl
                | some u =>
                  have := nl hd u hdl hq0
                  rw [nhd] at this
                  cases this
              have x4 : Exl l H H' := by
                intro a u na ha
                by_cases z : a = hd
                · rw [z, o7] at ha
                  cases ha
                · exact ex a u na z (x47 a u na z (x04 a u na ha))
              exact (((x4.trans e9).trans (Exl.of (Ex.new htp))).trans eg).trans (Exl.of (Ex.new hb))
          have hh10 := hh9.mono (Ex.new (o := .tup zs) htp)
          refine ⟨by show 3 ≤ sizeLine; decide, fun z hz => ?_⟩
          have hh11 := hh10.mono (Ex.new (o := .tup [.str "small", .str "plain", .str "int"]) hz)
          refine ⟨_, rfl, l, c, 4, rfl, by decide, by decide, hh11, fun f3 H12 _ _ e12 hh12 => ⟨f3, rfl, z, _, rfl, st_of (e12 _ _ (hh10.new hz).1 upd_same), fun _ => ?_, fun _ p2 hp2 => ?_⟩⟩
          · exact fin H12 _ ((Stay.new hz).trans (hh11.stay e12)) ((Exl.of (Ex.new hz)).trans e12) hh12
          · exact fin _ _ (((Stay.new hz).trans (hh11.stay e12)).trans (Stay.new hp2)) (((Exl.of (Ex.new hz)).trans e12).trans (Exl.of (Ex.new hp2))) (hh12.mono (Ex.new hp2))
end
end K03
/-! sorted(d): the keys of a dict, ints. -/
namespace LL
open PySem PySem.W PySem.Calls PyProof.Rows PyProof.V PySem.Spec
section
variable {prog : Program} {w : World} {A : Around} {E : Value → Shared → Prop} {s : Shared} {T : String} {r d : Addr} {n : Nat} {P : Nat → Value → Prop} {OK : Heap → Prop}
theorem collect_kdl {R : List Value → Shared → Prop} (K : KdlSrc prog w T r d n P OK) (hh : A.handled = none) (hok : OK s.heap) (hn : n ≤ sizeLine)
    (h : ∀ (h' : Heap) (tk : Nat) (acc : Array Value), (∀ b o, s.heap.get? b = some o → h'.get? b = some o) → s.heap.objs.size < h'.objs.size → ItemsOf P acc n → R acc.toList { s with heap := h', toks := tk }) :
    wpAny (model prog w) A (collect (.ref r)) R E s := by
  obtain ⟨hr, hd⟩ := K.there _ hok
  unfold collect
  refine wpAny_bind (wpAny_runValue (codeAny_builtin entry_proto_collect' ?_))
  rw [Around.under_plainId PySem.F.plain_proto_collect _]
  show wpAny _ A.in1 (newList [] >>= fun l => again (.builtin "list.__iadd__" ⟨[l, .ref r], []⟩)) _ _ s
  refine wpAny_bind (wpAny_newObj_type ?_)
  refine wpAny_pure ⟨plainId_quiet PySem.F.plain_list_iadd _, codeAny_builtin entry_list_iadd' ?_⟩
  rw [Around.under_plainId PySem.F.plain_list_iadd _]
  have hS₁ : (s.heap.push { cls := .type "list", data := .seq ([] : List Value).toArray }).get? s.heap.objs.size = some { cls := .type "list", data := .seq #[] } := Heap.get?_push_size _ rfl
  show wpAny _ A.in1 (Builtin.List.listExtendWith (.ref s.heap.objs.size) (.ref r) (.ref s.heap.objs.size)) _ _ _
  have key := kdl_extend (A := A) (s := { s with heap := s.heap.push { cls := .type "list", data := .seq ([] : List Value).toArray } })
    (R := fun (q : Result) (s' : Shared) => ∃ (h' : Heap) (tk : Nat) (acc' : Array Value) (c' : Nat), q = .ok (.ret (.ref s.heap.objs.size)) ∧ s' = { s with heap := h', toks := tk } ∧
      (∀ b o, s.heap.get? b = some o → h'.get? b = some o) ∧ h'.get? s.heap.objs.size = some { cls := .type "list", dict := none, data := .seq acc' c', slots := #[] } ∧ ItemsOf P acc' n)
    K hh (K.keep _ _ hok fun b _ o e => Heap.get?_push_of_some _ e) s.heap.objs.size (Nat.ne_of_gt hr) (Nat.ne_of_gt hd) (.ref s.heap.objs.size) 0 hS₁
    (fun h' tk acc' c' hk hS' hacc => ⟨h', tk, acc', c', rfl, rfl, fun b o e => hk b o (Nat.ne_of_lt (Heap.lt_size e)) (Heap.get?_push_of_some _ e), hS', hacc⟩) hn
  refine wpAny_mono key (fun fin s' x => ?_) fun e s' x => ?_
  · cases fin with
    | done f =>
      obtain ⟨h', tk, acc', c', e, rfl, hk, hS', hacc⟩ := x
      cases e
      show wpAny _ A (load s.heap.objs.size >>= _) _ _ _
      refine wpAny_bind (wpAny_load hS' ?_)
      refine wpAny_pure ?_
      exact h h' tk acc' hk (Heap.lt_size hS') hacc
    | again c₁ =>
      refine ⟨x.1, codeAny_mono x.2 fun q s₂ y => ?_⟩
      obtain ⟨h', tk, acc', c', rfl, rfl, hk, hS', hacc⟩ := y
      show wpAny _ A (load s.heap.objs.size >>= _) _ _ _
      refine wpAny_bind (wpAny_load hS' ?_)
      refine wpAny_pure ?_
      exact h h' tk acc' hk (Heap.lt_size hS') hacc
  · obtain ⟨_, _, _, _, e', _⟩ := x
    cases e'
theorem sorted_kdl {Q : Value → Shared → Prop} (K : KdlSrc prog w T r d n P OK) (hh : A.handled = none) (hok : OK s.heap) (hn : n ≤ sizeLine)
    (h : ∀ (h' : Heap) (tk : Nat) (acc : Array Value), (∀ b o, s.heap.get? b = some o → h'.get? b = some o) → s.heap.objs.size < h'.objs.size → ItemsOf P acc n →
      wpAny (model prog w) A.in1 (call (.builtin "list.sort") [.ref h'.objs.size]) (fun _ s' => Q (.ref h'.objs.size) s') E { s with heap := h'.push { cls := .type "list", data := .seq acc.toList.toArray }, toks := tk }) :
    wpAny (model prog w) A (call (.builtin "sorted") [.ref r]) Q E s := by
  refine call_function_entry kind_sorted plain_sorted entry_sorted (args_sorted1 _) ?_
  unfold Builtin.«sorted»
  refine wpAny_bind (m := checkCount "sorted" 1 1 _) (wpAny_pure ?_)
  refine wpAny_bind (collect_kdl (A := A.in1) K hh hok hn fun h' tk acc hk hlt hacc => ?_)
  refine wpAny_bind (wpAny_newList ?_ (by rw [Array.length_toList, hacc.1]; exact hn))
  have hg := h h' tk acc hk hlt hacc
  refine wpAny_bind (wpAny_holding (wpAny_mono hg (fun _ s' x => ?_) fun _ _ e => e))
  exact wpAny_pure ⟨_, rfl, x⟩
end
end LL
namespace LL
open PySem PySem.Spec PyProof.Rows L2
/-- sorted(d), d's keys ints -/
def rSortedD : List V → Hp → VK → Prop := fun vs H Q => ∃ (p : Addr) (kvs : List (Key × V)) (ns : List Int), vs = [V.ref p] ∧ H p = some (.dK kvs) ∧ kvs.map (·.1) = ns.map Sum.inl ∧
  ∀ (ns' : List Int) (q : Addr), ns'.Perm ns → ns'.Pairwise (· ≤ ·) → H q = none → Q (.ref q) (upd H q (.lst (ns'.map V.int)))
theorem cr_sortedD {X : Cx} (hc : X.calm = true) : CallR X (.builtin "sorted") rSortedD := by
  intro pins s σ H xs us Q I r h
  obtain ⟨p, kvs, ns, e, hk, hns, q⟩ := h
  subst e
  obtain ⟨u, eu, rx⟩ := vals1 r
  subst eu
  obtain rfl : u = Value.ref p := rx
  obtain ⟨z, lo, vs, rk, hd⟩ := (show ObjOk X.prog X.w H s.heap p (.dK kvs) from I.hok p _ hk)
  obtain ⟨ep, hat⟩ := hd.dictAt
  have hl : kvs.length = vs.length := Paired.length rk
  have lns : kvs.length = ns.length := by
    have := congrArg List.length hns
    rwa [List.length_map, List.length_map] at this
  refine sorted_kdl (PySem.W.kdl_dict (knd := mixKind X.prog X.w) (kvs := vs) (ep := ep) lo) (I.ok.hd hc) hat (by rw [← hl]; exact z) fun h' tk acc hkeep hlt hacc => ?_
  have rv : Vals (ns.map V.int) acc.toList := by
    have el : acc.toList.length = acc.size := by simp
    refine vals_of_at (by rw [List.length_map, el, hacc.1, ← hl, lns]) fun j x w h1 h2 => ?_
    obtain ⟨k, y, hky, hi⟩ := hacc.2 j w (by rw [← Array.getElem?_toList]; exact h2)
    have e1 : (kvs.map (·.1))[j]? = some k := by
      rw [KV.keys rk, List.getElem?_map, hky] <;> rfl
    have rel : RelV (kV k) w := keyIs_rel hi
    rw [hns, List.getElem?_map] at e1
    rw [List.getElem?_map] at h1
    cases hj : ns[j]? with
    | none =>
      rw [hj] at e1
      cases e1
    | some i =>
      rw [hj] at e1 h1
      cases e1
      cases h1
      exact rel
  have hi := rv.ints
  have hz : acc.toList.length ≤ sizeLine := by
    rw [Array.length_toList, hacc.1, ← hl]
    exact z
  have hob : (h'.push { cls := .type "list", data := .seq acc.toList.toArray }).get? h'.objs.size = some (seqObj "list" acc.toList.toArray 0) := Heap.get?_push_size _ rfl
  refine wpAny_call_entry PyProof.Rows.slot_list_sort ⟨_, hob, rfl⟩ PyProof.Rows.entry_list_sort (SrtO.list_sort_ord SrtO.swo_int hob hz (fun h2 => SrtO.ints_sortable hi h2) fun out h1 h2 => ⟨.none, rfl, ?_⟩) (PyProof.Rows.args_list_sort _)
  obtain ⟨k1, k2, k3⟩ := SrtO.ints_out hi h1 h2
  obtain ⟨eF, heF⟩ := PyProof.Rows.sortedHeap_at (vs := acc.toList) (out := out.toArray) hob
  have hn0 : H h'.objs.size = none := I.hok.fresh (Nat.le_of_lt hlt)
  have kS : ∀ b o, s.heap.get? b = some o → (sortedHeap (h'.push { cls := .type "list", data := .seq acc.toList.toArray }) h'.objs.size acc.toList out.toArray).get? b = some o := fun b o e => by
    have hb : b < h'.objs.size := Heap.lt_size (hkeep b o e)
    have e2 : (h'.push { cls := .type "list", data := .seq acc.toList.toArray }).get? b = some o := Heap.get?_push_of_some _ (hkeep b o e)
    exact (PyProof.Rows.sortedHeap_old (Nat.ne_of_lt hb) (Heap.lt_size e2)).trans e2
  have I1 : Inv X pins σ H { s with heap := sortedHeap (h'.push { cls := .type "list", data := .seq acc.toList.toArray }) h'.objs.size acc.toList out.toArray, toks := tk } := I.kept (t' := tk) kS
  have hlen : ((out.map SrtO.iv).map V.int).length ≤ sizeLine := by
    rw [List.length_map, k2.length_eq, ← lns]
    exact z
  exact ⟨.ref _, upd H h'.objs.size (.lst ((out.map SrtO.iv).map V.int)), I1.take (t' := tk) (fun b ob _ e => e) (I.fpOk (Nat.le_of_lt hlt) hn0) ⟨hlen, out, eF, vals_of_ints k1, heF⟩, rfl, q _ _ k2 k3 hn0⟩
end LL
set_option maxHeartbeats 8000000
/-! The program's own walks over parts: things_within, is_open, root, headed, taken, all_parts, built, filled. -/
namespace K03
open PySem PySem.Spec PyProof.Rows L2 Evl LL
theorem cut1 (x : V) (xs : List V) : cutV (x :: xs) (some 1) none = xs := by
  unfold cutV
  have e1 : HT.sIx (x :: xs).length 0 (some 1) = 1 := by simp [HT.sIx]
  have e2 : HT.sIx (x :: xs).length (x :: xs).length none = (x :: xs).length := rfl
  rw [e1, e2]
  simp
theorem cut1_no (x : V) (xs : List V) : ¬ (HT.sIx (x :: xs).length 0 (some 1) = 0 ∧ HT.sIx (x :: xs).length (x :: xs).length none = (x :: xs).length) := by
  have e1 : HT.sIx (x :: xs).length 0 (some 1) = 1 := by simp [HT.sIx]
  rw [e1]
  simp
theorem leafy_in (h : Str) : inV (.str h) [.str "?", .str "~"] = Thg.leafy h := by
  have q : ∀ a : Str, (a == h) = decide (h = a) := fun a => by
    by_cases e : h = a
    · subst e; simp
    · rw [decide_eq_false e]; exact beq_eq_false_iff_ne.mpr fun z => e z.symm
  unfold inV Thg.leafy
  simp only [List.any_cons, List.any_nil, Bool.or_false, eqV]
  rw [q, q]
structure Fr (mg : Str → Option Value) : Prop where
  len : mg "len" = none
  list : mg "list" = none
  tuple : mg "tuple" = none
  type : mg "type" = none
  zip : mg "zip" = none
section
variable {K : PySem.W.Frag} {σ : L2.St} {H : Hp} {te ta tb : TE} {v : V} {t : Thg} {i : Nat}
def isTup : Thg → Bool
  | .node _ _ => true
  | _ => false
/-- type(x) is tuple -/
theorem ev_isTup (hi : σ[i]? = some (some v)) (h : Tv H v t) : Ev (tOp (fun x y H Q => ∃ m n, x = .ty m ∧ y = .ty n ∧ Q (.bl (decide (m = n))) H) (tCB RZ.rTy4 (tCons (tVar i) tNil)) (tC (.ty "tuple"))) σ H (.bl (isTup t)) := by
  cases h with
  | num n => exact ev_op (ev_cb (z := .ty "int") (ea_cons (ev_var hi) ea_nil) fun H1 _ Q q => ⟨_, "int", rfl, RZ.Ty4.int n, q H1 (Ex.refl H1)⟩) ev_c fun H1 _ Q q => ⟨_, _, rfl, rfl, q H1 (Ex.refl H1)⟩
  | word s => exact ev_op (ev_cb (z := .ty "str") (ea_cons (ev_var hi) ea_nil) fun H1 _ Q q => ⟨_, "str", rfl, RZ.Ty4.str s, q H1 (Ex.refl H1)⟩) ev_c fun H1 _ Q q => ⟨_, _, rfl, rfl, q H1 (Ex.refl H1)⟩
  | node e hs nb => exact ev_op (ev_cb (z := .ty "tuple") (ea_cons (ev_var hi) ea_nil) fun H1 e1 Q q => ⟨_, "tuple", rfl, RZ.Ty4.tup (e1 _ _ e), q H1 (Ex.refl H1)⟩) ev_c fun H1 _ Q q => ⟨_, _, rfl, rfl, q H1 (Ex.refl H1)⟩
/-- type(x) is not tuple -/
theorem ev_notTup (hi : σ[i]? = some (some v)) (h : Tv H v t) : Ev (tOp (fun x y H Q => ∃ m n, x = .ty m ∧ y = .ty n ∧ Q (.bl (!decide (m = n))) H) (tCB RZ.rTy4 (tCons (tVar i) tNil)) (tC (.ty "tuple"))) σ H (.bl (!isTup t)) := by
  cases h with
  | num n => exact ev_op (ev_cb (z := .ty "int") (ea_cons (ev_var hi) ea_nil) fun H1 _ Q q => ⟨_, "int", rfl, RZ.Ty4.int n, q H1 (Ex.refl H1)⟩) ev_c fun H1 _ Q q => ⟨_, _, rfl, rfl, q H1 (Ex.refl H1)⟩
  | word s => exact ev_op (ev_cb (z := .ty "str") (ea_cons (ev_var hi) ea_nil) fun H1 _ Q q => ⟨_, "str", rfl, RZ.Ty4.str s, q H1 (Ex.refl H1)⟩) ev_c fun H1 _ Q q => ⟨_, _, rfl, rfl, q H1 (Ex.refl H1)⟩
  | node e hs nb => exact ev_op (ev_cb (z := .ty "tuple") (ea_cons (ev_var hi) ea_nil) fun H1 e1 Q q => ⟨_, "tuple", rfl, RZ.Ty4.tup (e1 _ _ e), q H1 (Ex.refl H1)⟩) ev_c fun H1 _ Q q => ⟨_, _, rfl, rfl, q H1 (Ex.refl H1)⟩
/-- part[0] in ("?", "~") -/
theorem ev_leafy {a : Addr} {h : Str} {vs : List V} (hi : σ[i]? = some (some (.ref a))) (e : H a = some (.tup (.str h :: vs))) : Ev (tOp (rIn K false) (tOp (rIxT K) (tVar i) (tC (.int 0))) (tTup (tCons (tC (.str "?")) (tCons (tC (.str "~")) tNil)))) σ H (.bl (Thg.leafy h)) :=
  ev_is (ev_inU (ev_op (ev_var hi) ev_c (rv_ixT (st_of e) (atI_nat (j := 0) rfl))) (eu_tup (ea_cons ev_c (ea_cons ev_c ea_nil)) (by show 2 ≤ 100000; decide)) rfl rfl) (by rw [leafy_in])
/-- part[0] == "!" -/
theorem et_call {a : Addr} {h : Str} {vs : List V} (hi : σ[i]? = some (some (.ref a))) (e : H a = some (.tup (.str h :: vs))) (nb : h ≠ "!") : EvT (tTest (tOp rEq (tOp (rIxT K) (tVar i) (tC (.int 0))) (tC (.str "!")))) σ H false :=
  et_is (et_test (ev_op (ev_op (ev_var hi) ev_c (rv_ixT (st_of e) (atI_nat (j := 0) rfl))) ev_c (rv_eq rfl))) (decide_eq_false fun z => nb (V.str.inj z))
theorem if_at {Q : VK} {tt : TT} {b : Bool} (h : EvT tt σ H b) (h1 : b = true → ∀ H1, Ex H H1 → ta σ H1 Q) (h2 : b = false → ∀ H1, Ex H H1 → tb σ H1 Q) : tIf tt ta tb σ H Q := h H (Ex.refl H) _ fun H1 e => by
  cases b with
  | true => exact h1 rfl H1 e
  | false => exact h2 rfl H1 e
end
def spKids : Sp := fun vs H Q _ => ∃ v t, vs = [v] ∧ Tv H v t ∧ ∀ p us H', Ex H H' → H' p = some (.tup us) → Tvs H' us t.kids → Q (.ref p) H'
def spOpen : Sp := fun vs H Q _ => ∃ v t, vs = [v] ∧ Tv H v t ∧ ∀ H', Ex H H' → Q (.bl t.isO) H'
section
variable {P : Program} {w : World} {K : PySem.W.Frag} {mg : Str → Option Value} {base : Heap} {f : Addr} {fd : FuncData}
theorem scKids : FnScope ["part"] ["part"] (defScope (top 3)) := ⟨rfl, rfl, rfl, by decide +kernel, rfl, by decide +kernel, by decide +kernel⟩
theorem ok_kids (F : FnT K "things_within" (top 3) f fd) (T : Fr mg) : FnOk P w K mg base CX0 1 f fd ["part"] spKids := by
  have sc := scKids
  refine F.ok scKids (fun vs H Q E h => ?_) (fun cdv A outer s H vs Q E hr h => ?_)
  · obtain ⟨_, _, rfl, _⟩ := h
    rfl
  refine ⟨_, PSs.nox (pss_cons (ps_if (PW.pt (pw_or (pt_cmpR op_isNotTy (pe_callTy RZ.call_type4 (by rfl) T.type (by decide +kernel) (pa_cons (pv 0) pa_nil)) (pe_bltn (v := .ty "tuple") (u := .type "tuple") (by rfl) T.tuple (by decide +kernel) rfl) (nomark _)) (pw_or1 (pt_cmpR op_in_seq (pe_ix ix_tup (pv 0) pe_int (fun _ _ => rfl)) (pe_tup (pa_cons pe_str (pa_cons pe_str pa_nil))) (by rfl))))) (pss_one (ps_ret (pe_tup pa_nil))) pss_nil)
      (pss_one (ps_ret (pe_ifExp (pt_cmpR op_eq (pe_ix ix_tup (pv 0) pe_int (fun _ _ => rfl)) pe_str (nomark _)) (pe_ix ix_tup (pv 0) pe_int (fun _ _ => rfl)) (pe_slice sl_tup (pv 0) (po_some pe_int) po_none))))), ?_⟩
  obtain ⟨v, t, rfl, h, k⟩ := h
  have no : ∀ H1, Ex H H1 → t.kids = [] → tRet (tTup tNil) { nx := fun _ H' => Q .non H', rt := Q } (L2.start ["part"] [v]) H1 := fun H1 e1 hk => s_retU (eu_tup ea_nil (by decide)) fun p H2 _ e2 h2 => k p [] H2 (e1.trans e2) h2 (by rw [hk]; exact .nil)
  cases h with
  | num n => exact q_when (b := true) (et_is (et_or (a := true) (b := true) (et_test (ev_notTup rfl (.num n))) (fun z => nomatch z)) rfl) (fun _ H1 e1 => no H1 e1 rfl) (fun z => nomatch z)
  | word n => exact q_when (b := true) (et_is (et_or (a := true) (b := true) (et_test (ev_notTup rfl (.word n))) (fun z => nomatch z)) rfl) (fun _ H1 e1 => no H1 e1 rfl) (fun z => nomatch z)
  | @node a h vs ts e hs nb =>
    refine q_when (b := Thg.leafy h) (et_is (et_or (a := false) (et_test (ev_notTup rfl (.node e hs nb))) (fun _ => et_test (ev_leafy rfl e))) rfl) (fun hl H1 e1 => no H1 e1 (by simp [Thg.kids, hl])) (fun hl H1 e1 => ?_)
    refine if_at (et_call rfl (e1 _ _ e) nb) (fun z => nomatch z) (fun _ H2 e2 => ?_)
    have e12 := e1.trans e2
    refine ⟨_, rfl, 1, rfl, a, .str h :: vs, rfl, st_of (e12 _ _ e), cut1_no _ _, fun p hp => k p vs _ (e12.trans (Ex.new hp)) (by rw [cut1]; exact upd_same) ?_⟩
    have ek : (Thg.node h ts).kids = ts := by simp [Thg.kids, hl]
    rw [ek]
    exact hs.mono (TupEx.of (e12.trans (Ex.new hp)))
theorem scOpen : FnScope ["part"] ["part"] (defScope (top 4)) := ⟨rfl, rfl, rfl, by decide +kernel, rfl, by decide +kernel, by decide +kernel⟩
theorem ok_open (F : FnT K "is_open" (top 4) f fd) (T : Fr mg) : FnOk P w K mg base CX0 1 f fd ["part"] spOpen := by
  have sc := scOpen
  refine F.ok scOpen (fun vs H Q E h => ?_) (fun cdv A outer s H vs Q E hr h => ?_)
  · obtain ⟨_, _, rfl, _⟩ := h
    rfl
  refine ⟨_, PSs.nox (pss_one (ps_ret (pe_and (pe_cmpR op_isTy (pe_callTy RZ.call_type4 (by rfl) T.type (by decide +kernel) (pa_cons (pv 0) pa_nil)) (pe_bltn (v := .ty "tuple") (u := .type "tuple") (by rfl) T.tuple (by decide +kernel) rfl) (nomark _)) (pe_one (pe_cmpR op_eq (pe_ix ix_tup (pv 0) pe_int (fun _ _ => rfl)) pe_str (nomark _)))))), ?_⟩
  obtain ⟨v, t, rfl, h, k⟩ := h
  refine s_ret (v := .bl t.isO) ?_ fun H1 e1 => k H1 e1
  cases h with
  | num n => exact ev_is (ev_andV (a := false) (b := false) (ev_isTup rfl (.num n)) (fun z => nomatch z)) rfl
  | word n => exact ev_is (ev_andV (a := false) (b := false) (ev_isTup rfl (.word n)) (fun z => nomatch z)) rfl
  | @node a h vs ts e hs nb => exact ev_is (ev_andV (a := true) (ev_isTup rfl (.node e hs nb)) (fun _ => ev_op (ev_op (ev_var rfl) ev_c (rv_ixT (st_of e) (atI_nat (j := 0) rfl))) ev_c (rv_eq rfl))) (by simp [Thg.isO])
end
end K03
set_option maxHeartbeats 8000000
namespace K03
open PySem PySem.Spec PyProof.Rows L2 Evl LL
def spTaken : Sp := fun vs H Q _ => ∃ (l : Addr) (xs : List V) (m : Nat), vs = [.ref l, .int (m : Nat)] ∧ H l = some (.lst xs) ∧ m ≤ xs.length ∧ xs.length ≤ 100000 ∧
  ∀ p H', p ≠ l → Exl l H H' → H' l = some (.lst (xs.take (xs.length - m))) → H' p = some (.lst (xs.drop (xs.length - m)).reverse) → Q (.ref p) H'
def spHeaded : Sp := fun vs H Q _ => ∃ v t q us ts, vs = [v, .ref q] ∧ Tv H v t ∧ H q = some (.lst us) ∧ Tvs H us ts ∧ us.length ≤ 90000 ∧ (ts ≠ [] → isTup t = true) ∧ ∀ r H', Ex H H' → Tv H' r (t.headed ts) → Q r H'
def spAll : Sp := fun vs H Q _ => ∃ b us ts, vs = [.ref b] ∧ H b = some (.tup us) ∧ Tvs H us ts ∧ (Thg.preL ts).length ≤ 50000 ∧ ∀ p ws H', Ex H H' → H p = none → H' p = some (.lst ws) → Tvs H' ws (Thg.preL ts) → Q (.ref p) H'
theorem cut_from (xs : List V) (j : Nat) (h : j ≤ xs.length) : cutV xs (some (j : Int)) none = xs.drop j := by
  unfold cutV
  have e1 : HT.sIx xs.length 0 (some (j : Int)) = j := by
    show (if (j : Int) < 0 then ((j : Int) + (xs.length : Int)).toNat else min ((j : Int)).toNat xs.length) = j
    rw [if_neg (by omega), Int.toNat_natCast]
    omega
  have e2 : HT.sIx xs.length xs.length none = xs.length := rfl
  rw [e1, e2]
  exact List.take_of_length_le (by rw [List.length_drop]; omega)
section
variable {P : Program} {w : World} {K : PySem.W.Frag} {mg : Str → Option Value} {base : Heap} {f : Addr} {fd : FuncData}
theorem scTaken : FnScope ["stack", "many", "cut", "things"] ["stack", "many"] (defScope (top 7)) := ⟨rfl, rfl, rfl, by decide +kernel, rfl, by decide +kernel, by decide +kernel⟩
theorem ok_taken (F : FnT K "taken" (top 7) f fd) (T : Fr mg) : FnOk P w K mg base CX0 1 f fd ["stack", "many"] spTaken := by
  have sc := scTaken
  refine F.ok scTaken (fun vs H Q E h => ?_) (fun cdv A outer s H vs Q E hr h => ?_)
  · obtain ⟨_, _, _, rfl, _⟩ := h
    rfl
  refine ⟨_, PSs.nox (pss_cons (ps_set (i := 2) sc.nd rfl (Or.inl rfl) (pe_op op_sub (pe_callB call_len (by rfl) T.len (by decide +kernel) (pa_cons (pv 0) pa_nil)) (pv 1)))
      (pss_cons (ps_set (i := 3) sc.nd rfl (Or.inl rfl) (pe_slice sl_list (pv 0) (po_some (pv 2)) po_none))
      (pss_cons (ps_delF (pv 0) (po_some (pv 2)))
      (pss_one (ps_ret (pe_revL (pv 3))))))), ?_⟩
  obtain ⟨l, xs, m, rfl, hl, hm, hz, k⟩ := h
  obtain ⟨j, hj⟩ : ∃ j : Nat, j = xs.length - m := ⟨_, rfl⟩
  have ej : ((xs.length : Nat) : Int) - (m : Nat) = (j : Nat) := by omega
  refine q_asg (v := .int (j : Nat)) (ev_is (ev_op (ev_cb (z := .int (xs.length : Nat)) (ea_cons (ev_var rfl) ea_nil) fun H2 e Q q => ⟨_, _, rfl, .inl ⟨_, sq_of (e _ _ hl), rfl⟩, q H2 (Ex.refl H2)⟩) (ev_var rfl) rv_I0) (by rw [ej])) fun H1 e1 => ?_
  refine q_asgL (el_sl (ev_var rfl) (eo_some (ev_var rfl)) eo_none (sq_of (e1 _ _ hl))) fun p H2 hp e2 h2 => ?_
  rw [cut_from xs j (by omega)] at h2
  have hl2 := e2 _ _ (e1 _ _ hl)
  have pl : p ≠ l := fun e => by
    rw [e, e1 _ _ hl] at hp
    cases hp
  refine ⟨_, rfl, _, rfl, _, rfl, l, xs, (j : Nat), rfl, rfl, hl2, by omega, by omega, ?_⟩
  refine ⟨_, rfl, p, _, rfl, sq_of (by rw [upd_ne pl]; exact h2), fun r hr => ?_⟩
  have lr : r ≠ l := fun e => by
    rw [e, upd_same] at hr
    cases hr
  refine k r _ lr (((Exl.of (e1.trans e2)).trans Exl.upd).trans (Exl.of (Ex.new hr))) ?_ ?_
  · rw [upd_ne (Ne.symm lr), upd_same, Int.toNat_natCast, hj]
  · rw [← hj]
    exact upd_same
theorem scHeaded : FnScope ["part", "things"] ["part", "things"] (defScope (top 6)) := ⟨rfl, rfl, rfl, by decide +kernel, rfl, by decide +kernel, by decide +kernel⟩
theorem ok_headed (F : FnT K "headed" (top 6) f fd) (T : Fr mg) : FnOk P w K mg base CX0 1 f fd ["part", "things"] spHeaded := by
  have sc := scHeaded
  refine F.ok scHeaded (fun vs H Q E h => ?_) (fun cdv A outer s H vs Q E hr h => ?_)
  · obtain ⟨_, _, _, _, _, rfl, _⟩ := h
    rfl
  refine ⟨_, PSs.nox (pss_cons (ps_if (pt_cmpR op_eq (pe_callB call_len (by rfl) T.len (by decide +kernel) (pa_cons (pv 1) pa_nil)) pe_int (nomark _)) (pss_one (ps_ret (pv 0))) pss_nil)
      (pss_cons (ps_if (pt_cmpR op_eq (pe_ix ix_tup (pv 0) pe_int (fun _ _ => rfl)) pe_str (nomark _)) (pss_one (ps_ret (pe_tup (pa_cons pe_str (pa_cons (pe_ix ix_tup (pv 0) pe_int (fun _ _ => rfl)) (pa_cons (pe_callTy call_tuple_of (by rfl) T.tuple (by decide +kernel) (pa_cons (pv 1) pa_nil)) pa_nil)))))) pss_nil)
      (pss_one (ps_ret (pe_tup (pa_cons (pe_ix ix_tup (pv 0) pe_int (fun _ _ => rfl)) (StX.pa_star (pv 1) pa_nil))))))), ?_⟩
  obtain ⟨v, t, q, us, ts, rfl, h, hq, hs, hz, ht, k⟩ := h
  refine q_when (b := decide (V.int (us.length : Nat) = V.int 0)) (et_test (ev_op (ev_cb (z := .int (us.length : Nat)) (ea_cons (ev_var rfl) ea_nil) fun H2 e Q q => ⟨_, _, rfl, .inl ⟨_, sq_of (e _ _ hq), rfl⟩, q H2 (Ex.refl H2)⟩) ev_c (rv_eq rfl))) (fun hb H1 e1 => ?_) (fun hb H1 e1 => ?_)
  · have e0 : ts = [] := by
      have z := V.int.inj (of_decide_eq_true hb)
      have := hs.len
      exact List.eq_nil_of_length_eq_zero (by omega)
    refine s_ret (ev_var rfl) fun H2 e2 => k v H2 (e1.trans e2) ?_
    rw [e0]
    have e3 : t.headed [] = t := by cases t <;> rfl
    rw [e3]
    exact h.mono (TupEx.of (e1.trans e2))
  · have n0 : ts ≠ [] := fun z => by
      have := hs.len
      rw [z] at this
      exact of_decide_eq_false hb (by rw [this]; rfl)
    have hT := ht n0
    cases h with
    | num _ => cases hT
    | word _ => cases hT
    | @node a hd vs xs e hx nb =>
      refine q_when (et_call rfl (e1 _ _ e) nb) (fun z => nomatch z) (fun _ H1' e1' => ?_)
      have e1 := e1.trans e1'
      refine ⟨_, rfl, a, _, 0, .str hd, rfl, rfl, st_of (e1 _ _ e), atI_nat (j := 0) rfl, _, rfl, q, us, rfl, .inr (sq_of (e1 _ _ hq)), ?_, fun p hp => ?_⟩
      · rw [List.append_nil]
        show us.length + 1 ≤ sizeLine
        exact sz_of (by omega)
      · rw [List.append_nil]
        refine k (.ref p) _ (e1.trans (Ex.new hp)) ?_
        cases ts with
        | nil => exact absurd rfl n0
        | cons t0 ts => exact .node upd_same (hs.mono (TupEx.of (e1.trans (Ex.new hp)))) nb
end
end K03
set_option maxHeartbeats 8000000
namespace K03
open PySem PySem.Spec PyProof.Rows L2 Evl LL
/-- the truth of a list -/
theorem et_lst {K : PySem.W.Frag} {σ : L2.St} {H : Hp} {i : Nat} {a : Addr} {xs : List V} (hi : σ[i]? = some (some (.ref a))) (h : H a = some (.lst xs)) : EvT (fun σ H Q => (tVar i) σ H fun x H' => ∃ k, TruV K x H' k ∧ Q k H') σ H (!xs.isEmpty) :=
  fun H1 e Q q => ⟨_, hi, _, .inl ⟨xs, sq_of (e _ _ h), rfl⟩, q H1 (Ex.refl H1)⟩
structure Fp (P : Program) (w : World) (K : PySem.W.Frag) (mg : Str → Option Value) (base : Heap) : Prop extends Fr mg where
  hthings_within : Has P w K mg base CX0 "things_within" 1 ["part"] spKids
theorem snoc_last {α : Type} (xs : List α) (x : α) : (xs ++ [x])[(xs ++ [x]).length - 1]? = some x := by simp
section
variable {P : Program} {w : World} {K : PySem.W.Frag} {mg : Str → Option Value} {base : Heap} {f : Addr} {fd : FuncData}
theorem scAll : FnScope ["bundle", "told", "todo", "part"] ["bundle"] (defScope (top 1)) := ⟨rfl, rfl, rfl, by decide +kernel, rfl, by decide +kernel, by decide +kernel⟩
theorem ok_all (F : FnT K "all_parts" (top 1) f fd) (T : Fp P w K mg base) : FnOk P w K mg base CX0 2 f fd ["bundle"] spAll := by
  have sc := scAll
  refine F.ok scAll (fun vs H Q E h => ?_) (fun cdv A outer s H vs Q E hr h => ?_)
  · obtain ⟨_, _, _, rfl, _⟩ := h
    rfl
  refine ⟨_, PSs.nox (pss_cons (ps_set (i := 1) sc.nd rfl (Or.inl rfl) (pe_lst pa_nil))
      (pss_cons (ps_set (i := 2) sc.nd rfl (Or.inl rfl) (pe_callTy call_list_of (by rfl) T.list (by decide +kernel) (pa_cons (pe_revT (pv 0)) pa_nil)))
      (pss_cons (ps_while PassesOwn.never (pt_truth (pv 2) (by intro _; rfl)) (pss_cons (ps_set (i := 3) sc.nd rfl (Or.inl rfl) (pe_bm0 PySem.F.plainAttrs_list PySem.F.slot_list_pop PySem.F.type_list_pop mt_pop (pv 2)))
      (pss_cons (ps_expr (pe_bm PySem.F.plainAttrs_list PySem.F.slot_list_append PySem.F.type_list_append mt_append (pv 1) (pa_cons (pv 3) pa_nil)))
      (pss_one (ps_expr (pe_bm PySem.F.plainAttrs_list PySem.F.slot_list_extend PySem.F.type_list_extend mt_extendT (pv 2) (pa_cons (pe_revT (pe_callH T.hthings_within hr pass0 (pa_cons (pv 3) pa_nil))) pa_nil)))))))
      (pss_one (ps_ret (pv 1)))))), ?_⟩
  obtain ⟨b, us, ts, rfl, hb, hs, hz, k⟩ := h
  refine q_asgL (el_lst ea_nil (by decide)) fun p H1 hp e1 h1 => ?_
  refine ⟨_, rfl, b, us, rfl, st_of (e1 _ _ hb), fun r hr => ⟨r, us.reverse, rfl, .inr (st_of upd_same), fun td htd => ?_⟩⟩
  have e2 := Ex.new (o := .tup us.reverse) hr
  have e3 := Ex.new (o := .lst us.reverse) htd
  have ntd : H td = none := fresh_back (e1.trans e2) htd
  have np : p ≠ td := fun q => by
    have := e2 _ _ h1
    rw [q, htd] at this
    cases this
  dsimp only [gName]
  refine q_while (fun m σ' H' => ∃ ws qs done rest x3, σ' = [some (.ref b), some (.ref p), some (.ref td), x3] ∧ H' p = some (.lst ws) ∧ H' td = some (.lst qs) ∧ Ex H H' ∧ Tvs H' ws done ∧ Tvs H' qs rest.reverse ∧ done ++ Thg.preL rest = Thg.preL ts ∧ m = (Thg.preL rest).length) (Thg.preL ts).length ?_ ?_
  · refine ⟨[], us.reverse, [], ts, _, rfl, ?_, upd_same, (e1.trans e2).trans e3, .nil, ?_, rfl, rfl⟩
    · exact e3 _ _ (e2 _ _ h1)
    · exact (hs.mono (TupEx.of ((e1.trans e2).trans e3))).rev
  · rintro m σ' H' ⟨ws, qs, done, rest, x3, rfl, hw, hq, ex, hd, hv, eq, rfl⟩
    refine ⟨!qs.isEmpty, et_lst rfl hq, fun hb2 H2 e4 => ?_, fun hb2 H2 e4 => ?_⟩
    · cases rest with
      | nil =>
        cases hv
        cases hb2
      | cons t rest =>
        rw [List.reverse_cons] at hv
        obtain ⟨q1, q2, rfl, v1, v2⟩ := hv.split
        cases v2 with
        | cons v2 v3 =>
          rename_i v vs0
          cases v3
          have hw2 := e4 _ _ hw
          have hq2 := e4 _ _ hq
          have ld : done.length + (Thg.preL (t :: rest)).length ≤ 50000 := by
            have := congrArg List.length eq
            rw [List.length_append] at this
            omega
          have ll : ws.length = done.length := hd.len
          have lq : q1.length = rest.length := by have := v1.len; rw [List.length_reverse] at this; exact this
          have pc := Thg.preL_cons t rest
          have lr : ∀ zs : List Thg, zs.length ≤ (Thg.preL zs).length := fun zs => by
            induction zs with
            | nil => simp
            | cons z zs ih => rw [Thg.preL_cons, Thg.preL_app, List.length_cons, List.length_cons, List.length_append]; omega
          have lk := lr (t.kids ++ rest)
          refine ⟨fun σ2 H2 => ∃ m', m' < (Thg.preL (t :: rest)).length ∧ ∃ ws qs done rest x3, σ2 = [some (.ref b), some (.ref p), some (.ref td), x3] ∧ H2 p = some (.lst ws) ∧ H2 td = some (.lst qs) ∧ Ex H H2 ∧ Tvs H2 ws done ∧ Tvs H2 qs rest.reverse ∧ done ++ Thg.preL rest = Thg.preL ts ∧ m' = (Thg.preL rest).length, fun σ2 H3 z => z, ?_⟩
          refine ⟨_, rfl, .inl ⟨rfl, _, sq_of hq2⟩, td, q1 ++ [v], v, rfl, rfl, hq2, snoc_last q1 v, ?_⟩
          rw [List.dropLast_concat]
          dsimp only [gName]
          have t4 : TupEx H' (upd H2 td (.lst q1)) := (TupEx.of e4).trans (TupEx.lst hq2)
          have hw3 : upd H2 td (.lst q1) p = some (.lst ws) := by rw [upd_ne np]; exact hw2
          have ex4 : Ex H (upd H2 td (.lst q1)) := (ex.trans e4).mut ntd
          have tv : Tv (upd H2 td (.lst q1)) v t := v2.mono t4
          have hd4 := hd.mono t4
          have v14 := v1.mono t4
          have hq4 : upd H2 td (.lst q1) td = some (.lst q1) := upd_same
          revert t4 hw3 ex4 tv hd4 v14 hq4
          generalize upd H2 td (.lst q1) = H4
          intro t4 hw3 ex4 tv hd4 v14 hq4
          refine q_app hw3 (ev_var rfl) (ev_var rfl) (by omega) fun H5 e5 => ?_
          have t5 : TupEx H4 (upd H5 p (.lst (ws ++ [v]))) := (TupEx.of e5).trans (TupEx.lst (e5 _ _ hw3))
          have hq5 : upd H5 p (.lst (ws ++ [v])) td = some (.lst q1) := by rw [upd_ne (Ne.symm np)]; exact e5 _ _ hq4
          have ex5 : Ex H (upd H5 p (.lst (ws ++ [v]))) := (ex4.trans e5).mut hp
          have hw5 : upd H5 p (.lst (ws ++ [v])) p = some (.lst (ws ++ [v])) := upd_same
          have tv5 := tv.mono t5
          have hd5 := hd4.mono t5
          have v15 := v14.mono t5
          revert t5 hq5 ex5 hw5 tv5 hd5 v15
          generalize upd H5 p (.lst (ws ++ [v])) = H5'
          intro t5 hq5 ex5 hw5 tv5 hd5 v15
          refine ⟨_, rfl, .inl ⟨rfl, _, sq_of hq5⟩, _, rfl, v, t, rfl, tv5, fun kp us2 H6 e6 hk hks => ⟨kp, us2, rfl, st_of hk, fun r hr => ?_⟩⟩
          have e7 := Ex.new (o := .tup us2.reverse) hr
          have hq7 := e7 _ _ (e6 _ _ hq5)
          have lks := hks.len
          have lapp : (t.kids ++ rest).length = t.kids.length + rest.length := List.length_append
          have lpre : (Thg.preL (t :: rest)).length = (Thg.preL (t.kids ++ rest)).length + 1 := by rw [pc]; rfl
          refine ⟨td, r, q1, us2.reverse, rfl, rfl, hq7, st_of upd_same, sz_of (by rw [List.length_reverse]; omega), ?_⟩
          have t8 : TupEx H6 (upd (upd H6 r (.tup us2.reverse)) td (.lst (q1 ++ us2.reverse))) := (TupEx.of e7).trans (TupEx.lst hq7)
          have t9 := (TupEx.of e6).trans t8
          refine ⟨(Thg.preL (t.kids ++ rest)).length, by omega, ws ++ [v], q1 ++ us2.reverse, done ++ [t], t.kids ++ rest, _, rfl, ?_, upd_same, ((ex5.trans e6).trans e7).mut ntd, ?_, ?_, ?_, rfl⟩
          · rw [upd_ne np]
            exact e7 _ _ (e6 _ _ hw5)
          · exact Tvs.app (.cons (tv5.mono t9) .nil) (hd5.mono t9)
          · rw [List.reverse_append]
            exact Tvs.app (hks.rev.mono t8) (v15.mono t9)
          · rw [← eq, pc, List.append_assoc]
            rfl
    · have e0 : qs = [] := by
        cases qs with
        | nil => rfl
        | cons _ _ => cases hb2
      subst e0
      have r0 : rest = [] := by
        have := hv.len
        exact List.eq_nil_of_length_eq_zero (by simpa using this.symm)
      subst r0
      refine s_ret (ev_var rfl) fun H3 e5 => k p ws H3 ((ex.trans e4).trans e5) hp (e5 _ _ (e4 _ _ hw)) ?_
      have ed : done = Thg.preL ts := by rw [← eq]; exact (List.append_nil _).symm
      rw [← ed]
      exact hd.mono (TupEx.of (e4.trans e5))
end
end K03
set_option maxHeartbeats 8000000
namespace K03
open PySem PySem.Spec PyProof.Rows L2 Evl LL
theorem TupEx.exl {H H' : Hp} {d : Addr} {xs : List V} (h : H d = some (.lst xs)) (x : Exl d H H') : TupEx H H' := fun a ys e => x a _ (fun q => by rw [q, h] at e; cases e) e
theorem ex_exl {H H1 H2 : Hp} {d : Addr} (h : H d = none) (e : Ex H H1) (x : Exl d H1 H2) : Ex H H2 := fun a o q => x a o (fun z => by rw [z, h] at q; cases q) (e a o q)
/-- a dict from numbers to things -/
def Fv (H : Hp) (kvs : List (Key × V)) (f : Int → Option Thg) : Prop := ∀ n : Int, (∀ v, valV kvs (.inl n) = some v → ∃ t, f n = some t ∧ Tv H v t) ∧ (valV kvs (.inl n) = none → f n = none)
theorem Fv.mono {H H' : Hp} {kvs : List (Key × V)} {f : Int → Option Thg} (e : TupEx H H') (h : Fv H kvs f) : Fv H' kvs f := fun n => ⟨fun v hv => by
  obtain ⟨t, h1, h2⟩ := (h n).1 v hv
  exact ⟨t, h1, h2.mono e⟩, (h n).2⟩
def spBuilt : Sp := fun vs H Q _ => ∃ q g ws ts kvs f, vs = [.ref q, .ref g] ∧ H q = some (.lst ws) ∧ Tvs H ws (Thg.preL ts) ∧ (∀ t ∈ Thg.preL ts, t.okO) ∧ (Thg.preL ts).length ≤ 50000 ∧ H g = some (.dK kvs) ∧ Fv H kvs f ∧
  ∀ p us H', Ex H H' → H' p = some (.tup us) → Tvs H' us (Thg.subL f ts) → Q (.ref p) H'
structure Fb (P : Program) (w : World) (K : PySem.W.Frag) (mg : Str → Option Value) (base : Heap) : Prop extends Fp P w K mg base where
  his_open : Has P w K mg base CX0 "is_open" 1 ["part"] spOpen
  hheaded : Has P w K mg base CX0 "headed" 1 ["part", "things"] spHeaded
  htaken : Has P w K mg base CX0 "taken" 1 ["stack", "many"] spTaken
theorem steps_all (ts : List Thg) : Thg.steps ts (Thg.preL ts).length = [] := Thg.preL_nil (by rw [Thg.preL_steps]; exact List.drop_length)
theorem kids_tup {t : Thg} (h : t.kids ≠ []) : isTup t = true := by
  cases t with
  | node _ _ => rfl
  | num _ => exact absurd rfl h
  | word _ => exact absurd rfl h
section
variable {P : Program} {w : World} {K : PySem.W.Frag} {mg : Str → Option Value} {base : Heap} {f : Addr} {fd : FuncData}
theorem el_rev {σ : L2.St} {H : Hp} {i : Nat} {a : Addr} {xs : List V} (hi : σ[i]? = some (some (.ref a))) (h : H a = some (.lst xs)) : EvL (tRevL K (tVar i)) σ H xs.reverse := fun H1 e Q q =>
  ⟨_, hi, a, xs, rfl, sq_of (e _ _ h), fun p hp => q p _ hp (Ex.new hp) upd_same⟩
theorem scBuilt : FnScope ["parts", "filling", "done", "part"] ["parts", "filling"] (defScope (top 2)) := ⟨rfl, rfl, rfl, by decide +kernel, rfl, by decide +kernel, by decide +kernel⟩
theorem ok_built (F : FnT K "built" (top 2) f fd) (T : Fb P w K mg base) : FnOk P w K mg base CX0 2 f fd ["parts", "filling"] spBuilt := by
  have sc := scBuilt
  refine F.ok scBuilt (fun vs H Q E h => ?_) (fun cdv A outer s H vs Q E hr h => ?_)
  · obtain ⟨_, _, _, _, _, _, rfl, _⟩ := h
    rfl
  refine ⟨_, PSs.nox (pss_cons (ps_set (i := 2) sc.nd rfl (Or.inl rfl) (pe_lst pa_nil))
      (pss_cons (ps_for PassesOwn.never rfl (pi_list (pe_revL (pv 0))) (pg_name (i := 3) sc.nd rfl (Or.inl rfl)) (pss_one (ps_if (pt_val (pe_callH T.his_open hr pass0 (pa_cons (pv 3) pa_nil))) (pss_one (ps_expr (pe_bm PySem.F.plainAttrs_list PySem.F.slot_list_append PySem.F.type_list_append mt_append (pv 2) (pa_cons (pe_dget2 (Nat.lt_of_le_of_lt (Nat.add_le_add_left (by decide : 1 ≤ 64) _) hr.units) (pv 1) (pe_ix ix_tup (pv 3) pe_int (fun _ _ => rfl)) (pv 3) M2.ok) pa_nil)))) (pss_one (ps_expr (pe_bm PySem.F.plainAttrs_list PySem.F.slot_list_append PySem.F.type_list_append mt_append (pv 2) (pa_cons (pe_callH T.hheaded hr pass0 (pa_cons (pv 3) (pa_cons (pe_callH T.htaken hr pass0 (pa_cons (pv 2) (pa_cons (pe_callB call_len (by rfl) T.len (by decide +kernel) (pa_cons (pe_callH T.hthings_within hr pass0 (pa_cons (pv 3) pa_nil)) pa_nil)) pa_nil))) pa_nil))) pa_nil)))))))
      (pss_one (ps_ret (pe_callTy call_tuple_of (by rfl) T.tuple (by decide +kernel) (pa_cons (pe_revL (pv 2)) pa_nil)))))), ?_⟩
  obtain ⟨q, g, ws, ts, kvs, f, rfl, hq, hs, hO, hz, hg, hf, k⟩ := h
  have lw := hs.len
  refine q_asgL (el_lst ea_nil (by decide)) fun d H1 hd e1 h1 => ?_
  have Pst : ∀ (p : Addr) (i : Nat) (us : List V) (x3 : Option V) (H' : Hp), True := fun _ _ _ _ _ => trivial
  refine q_forNLn (el_rev rfl (e1 _ _ hq)) (fun p i σ' H' => ∃ us x3, σ' = [some (.ref q), some (.ref g), some (.ref d), x3] ∧ H' d = some (.lst us) ∧ Tvs H' us (Thg.subL f (Thg.steps ts ((Thg.preL ts).length - i))).reverse ∧ Ex H H' ∧ H' p = some (.lst ws.reverse) ∧ p ≠ d) ?_ ?_ ?_ ?_
  · intro p H2 hp e2 h2
    refine ⟨[], _, rfl, e2 _ _ h1, ?_, e1.trans e2, h2, fun z => ?_⟩
    · rw [Nat.sub_zero, steps_all]
      exact .nil
    · rw [z, h1] at hp
      cases hp
  · rintro p i σ' H' _ ⟨us, x3, rfl, hu, _, _, hp, _⟩
    exact sq_of hp
  · rintro p i x σ' H' hx ⟨us, x3, rfl, hu, hv, ex, hp, pd⟩
    have hi : i < ws.length := by
      have := (List.getElem?_eq_some_iff.mp hx).1
      simpa using this
    obtain ⟨n, hn⟩ : ∃ n, n = (Thg.preL ts).length := ⟨_, rfl⟩
    rw [← hn] at hv lw hz ⊢
    obtain ⟨j, hj⟩ : ∃ j, j = n - (i + 1) := ⟨_, rfl⟩
    have hj1 : n - i = j + 1 := by omega
    have hjl : j < (Thg.preL ts).length := by omega
    obtain ⟨t, ht⟩ : ∃ t, (Thg.preL ts)[j]? = some t := ⟨_, List.getElem?_eq_getElem hjl⟩
    obtain ⟨rest, st1, st2⟩ := Thg.at_ ht
    rw [hj1, st2, Thg.subL_app, List.reverse_append] at hv
    have tx : Tv H x t := by
      obtain ⟨v, h3, h4⟩ := hs.get ht
      rw [List.getElem?_reverse hi, show ws.length - 1 - i = j by omega] at hx
      rw [hx] at h3
      cases h3
      exact h4
    have tx := tx.mono (TupEx.of ex)
    have okt := hO t (List.mem_of_getElem? ht)
    rw [← hj, st1]
    have fin : ∀ (r : V) (us' : List V) (H9 : Hp) (x3' : Option V), H9 d = some (.lst (us' ++ [r])) → Tvs H9 us' (Thg.subL f rest).reverse → Tv H9 r (Thg.sub f t) → Ex H H9 → H9 p = some (.lst ws.reverse) →
        ∃ us x3, [some (.ref q), some (.ref g), some (.ref d), x3'] = [some (.ref q), some (.ref g), some (.ref d), x3] ∧ H9 d = some (.lst us) ∧ Tvs H9 us (Thg.subL f (t :: rest)).reverse ∧ Ex H H9 ∧ H9 p = some (.lst ws.reverse) ∧ p ≠ d := fun r us' H9 x3' a1 a2 a3 a4 a5 =>
      ⟨_, _, rfl, a1, by
        show Tvs H9 _ (Thg.sub f t :: Thg.subL f rest).reverse
        rw [List.reverse_cons]
        exact Tvs.app (.cons a3 .nil) a2, a4, a5, pd⟩
    have lr : ∀ zs : List Thg, zs.length ≤ (Thg.preL zs).length := fun zs => by
      induction zs with
      | nil => simp
      | cons z zs ih => rw [Thg.preL_cons, Thg.preL_app, List.length_cons, List.length_cons, List.length_append]; omega
    have lst2 : (Thg.preL (t.kids ++ rest)).length ≤ 50000 := by
      rw [← st2, Thg.preL_steps, List.length_drop]
      omega
    have lkr := lr (t.kids ++ rest)
    rw [List.length_append] at lkr
    refine s_if (b := t.isO) (et_B fun H2 e2 Q2 q2 => ⟨_, rfl, x, t, rfl, tx.mono (TupEx.of e2), fun H3 e3 => q2 H3 e3⟩) (fun hb H2 e2 => ?_) (fun hb H2 e2 => ?_)
    · cases t with
      | num _ => cases hb
      | word _ => cases hb
      | node h xs =>
        have h0 : h = "?" := by simpa [Thg.isO] using hb
        subst h0
        obtain ⟨m, rfl⟩ := okt rfl
        have tx2 := tx.mono (TupEx.of e2)
        cases tx2 with
        | @node a _ vs _ ea hxs =>
          cases hxs with
          | cons hm h5 =>
            cases h5
            cases hm
            have ek : (Thg.node "?" [.num m]).kids = [] := by simp [Thg.kids, Thg.leafy]
            rw [ek] at hv
            have hv2 : Tvs H' us (Thg.subL f rest).reverse := by simpa [Thg.subL] using hv
            have lu := hv2.len
            rw [List.length_reverse, Thg.subL_len] at lu
            have hg2 := e2 _ _ (ex _ _ hg)
            refine s_app (e2 _ _ hu) (ev_var rfl) (v := (valV kvs (.inl m)).getD (.ref a)) (fun H3 e3 Q3 q3 => ⟨_, rfl, g, rfl, .inl ⟨kvs, .inl (e3 _ _ hg2)⟩, _, rfl, a, _, 1, .int m, rfl, rfl, st_of (e3 _ _ ea), atI_nat (j := 1) rfl, _, rfl, valV kvs (.inl m), DGet.k (k := .inl m) (e3 _ _ hg2), q3 H3 (Ex.refl H3)⟩) (by omega) fun H3 e3 => ?_
            have t3 : TupEx H2 (upd H3 d (.lst (us ++ [(valV kvs (.inl m)).getD (.ref a)]))) := (TupEx.of e3).trans (TupEx.lst (e3 _ _ (e2 _ _ hu)))
            refine fin _ us _ _ upd_same (hv2.mono ((TupEx.of e2).trans t3)) ?_ (((ex.trans e2).trans e3).mut hd) ?_
            · have hf2 := (hf.mono (TupEx.of ex)).mono (TupEx.of e2)
              have es : Thg.sub f (.node "?" [.num m]) = (f m).getD (.node "?" [.num m]) := by simp [Thg.sub]
              rw [es]
              revert t3
              cases hvv : valV kvs (.inl m) with
              | none =>
                intro t3
                rw [(hf2 m).2 hvv]
                exact (Tv.node ea (.cons (.num m) .nil)).mono t3
              | some v2 =>
                intro t3
                obtain ⟨t2, f1, f2⟩ := (hf2 m).1 v2 hvv
                rw [f1]
                exact f2.mono t3
            · rw [upd_ne pd]
              exact e3 _ _ (e2 _ _ hp)
    · obtain ⟨u1, u2, rfl, w1, w2⟩ := hv.split
      have l2 := w2.len
      rw [List.length_reverse, Thg.subL_len] at l2
      have l1 := w1.len
      rw [List.length_reverse, Thg.subL_len] at l1
      refine ⟨_, rfl, .inl ⟨rfl, _, sq_of (e2 _ _ hu)⟩, _, rfl, _, rfl, _, rfl, x, t, rfl, tx.mono (TupEx.of e2), fun kp us2 H6 e6 hk hks => ?_⟩
      have lk := hks.len
      have hu6 := e6 _ _ (e2 _ _ hu)
      have ex6 := (ex.trans e2).trans e6
      have la : (u1 ++ u2).length - us2.length = u1.length := by rw [List.length_append]; omega
      refine ⟨_, _, rfl, .inr ⟨_, st_of hk, rfl⟩, d, u1 ++ u2, us2.length, rfl, hu6, by rw [List.length_append]; omega, by rw [List.length_append]; omega, fun tp H7 ntd x7 h7d h7p => ?_⟩
      rw [la, List.take_left] at h7d
      rw [la, List.drop_left] at h7p
      have t7 := TupEx.exl hu6 x7
      have t07 : TupEx H' H7 := ((TupEx.of e2).trans (TupEx.of e6)).trans t7
      have ex7 := ex_exl hd ex6 x7
      refine ⟨x, t, tp, u2.reverse, Thg.subL f t.kids, rfl, tx.mono t07, h7p, ?_, by rw [List.length_reverse]; omega, fun nz => kids_tup fun z => nz (by rw [z]; rfl), fun r H8 e8 hr8 => ?_⟩
      · have := (w2.mono t07).rev
        rwa [List.reverse_reverse] at this
      · have h8d := e8 _ _ h7d
        rw [Thg.headed_sub f hb] at hr8
        have t8 : TupEx H8 (upd H8 d (.lst (u1 ++ [r]))) := TupEx.lst h8d
        refine ⟨d, u1, r, rfl, rfl, h8d, sz_lt (by omega), ?_⟩
        refine fin r u1 _ _ upd_same ((w1.mono t07).mono ((TupEx.of e8).trans t8)) (hr8.mono t8) ((ex7.trans e8).mut hd) ?_
        rw [upd_ne pd]
        exact e8 _ _ (x7 _ _ pd (e6 _ _ (e2 _ _ hp)))
  · rintro p σ' H' ⟨us, x3, rfl, hu, hv, ex, hp, pd⟩
    have e0 : (Thg.preL ts).length - ws.reverse.length = 0 := by rw [List.length_reverse]; omega
    rw [e0] at hv
    have hv : Tvs H' us (Thg.subL f ts).reverse := hv
    refine ⟨_, rfl, d, us, rfl, sq_of hu, fun r hr => ⟨r, us.reverse, rfl, .inl ⟨sq_of upd_same, fun p2 hp2 => ?_⟩⟩⟩
    have e3 := (Ex.new (o := .lst us.reverse) hr).trans (Ex.new (o := .tup us.reverse) hp2)
    refine k p2 us.reverse _ (ex.trans e3) upd_same ?_
    have := (hv.mono (TupEx.of e3)).rev
    rwa [List.reverse_reverse] at this
end
end K03
set_option maxHeartbeats 8000000
namespace K03
open PySem PySem.Spec PyProof.Rows L2 Evl LL
mutual
theorem dp_ex {K : PySem.W.Frag} {H H' : Hp} (e : Ex H H') : ∀ {v : V} {d : PyData}, Dp K H v d → Dp K H' v d
  | _, _, .non => .non
  | _, _, .bl b => .bl b
  | _, _, .int i => .int i
  | _, _, .str x => .str x
  | _, _, .lst h hs => .lst (ex_l e h) (dps_ex e hs)
  | _, _, .tup h hs => .tup (ex_t e h) (dps_ex e hs)
theorem dps_ex {K : PySem.W.Frag} {H H' : Hp} (e : Ex H H') : ∀ {vs : List V} {ds : List PyData}, DpAll K H vs ds → DpAll K H' vs ds
  | _, _, .nil => .nil
  | _, _, .cons h hs => .cons (dp_ex e h) (dps_ex e hs)
end
def spRoot (K : PySem.W.Frag) : Sp := fun vs H Q _ => ∃ v t, vs = [v] ∧ Tv H v t ∧ t.Wf ∧ ∀ r H', Ex H H' → Dp K H' r t.rootD → Q r H'
def spSame : Sp := fun vs H Q _ => ∃ va vb a b, vs = [va, vb] ∧ Tv H va a ∧ Tv H vb b ∧ a.Wf ∧ b.Wf ∧ a.pre.length ≤ 50000 ∧ ∀ r H', Ex H H' → (r = true ↔ a = b) → Q (.bl r) H'
structure Fm (P : Program) (w : World) (K : PySem.W.Frag) (mg : Str → Option Value) (base : Heap) : Prop extends Fb P w K mg base where
  hroot : Has P w K mg base CX0 "root" 1 ["part"] (spRoot K)
section
variable {P : Program} {w : World} {K : PySem.W.Frag} {mg : Str → Option Value} {base : Heap} {f : Addr} {fd : FuncData}
theorem scRoot : FnScope ["part"] ["part"] (defScope (top 5)) := ⟨rfl, rfl, rfl, by decide +kernel, rfl, by decide +kernel, by decide +kernel⟩
theorem ok_root (F : FnT K "root" (top 5) f fd) (T : Fr mg) : FnOk P w K mg base CX0 1 f fd ["part"] (spRoot K) := by
  have sc := scRoot
  refine F.ok scRoot (fun vs H Q E h => ?_) (fun cdv A outer s H vs Q E hr h => ?_)
  · obtain ⟨_, _, rfl, _⟩ := h
    rfl
  refine ⟨_, PSs.nox (pss_cons (ps_if (PW.pt (pw_or (pt_cmpR op_isNotTy (pe_callTy RZ.call_type4 (by rfl) T.type (by decide +kernel) (pa_cons (pv 0) pa_nil)) (pe_bltn (v := .ty "tuple") (u := .type "tuple") (by rfl) T.tuple (by decide +kernel) rfl) (nomark _)) (pw_or1 (pt_cmpR op_in_seq (pe_ix ix_tup (pv 0) pe_int (fun _ _ => rfl)) (pe_tup (pa_cons pe_str (pa_cons pe_str pa_nil))) (by rfl))))) (pss_one (ps_ret (pv 0))) pss_nil)
      (pss_cons (ps_if (pt_cmpR op_eq (pe_ix ix_tup (pv 0) pe_int (fun _ _ => rfl)) pe_str (nomark _)) (pss_one (ps_ret (pe_tup (pa_cons pe_str (pa_cons (pe_ix ix_tup (pv 0) pe_int (fun _ _ => rfl)) (pa_cons (pe_callB call_len (by rfl) T.len (by decide +kernel) (pa_cons (pe_ix ix_tup (pv 0) pe_int (fun _ _ => rfl)) pa_nil)) pa_nil)))))) pss_nil)
      (pss_one (ps_ret (pe_tup (pa_cons (pe_ix ix_tup (pv 0) pe_int (fun _ _ => rfl)) (pa_cons (pe_op op_sub (pe_callB call_len (by rfl) T.len (by decide +kernel) (pa_cons (pv 0) pa_nil)) pe_int) pa_nil))))))), ?_⟩
  obtain ⟨v, t, rfl, h, wf, k⟩ := h
  cases h with
  | num n => exact q_when (b := true) (et_is (et_or (a := true) (b := true) (et_test (ev_notTup rfl (.num n))) (fun z => nomatch z)) rfl) (fun _ H1 e1 => s_ret (ev_var rfl) fun H2 e2 => k _ H2 (e1.trans e2) (.int n)) (fun z => nomatch z)
  | word n => exact q_when (b := true) (et_is (et_or (a := true) (b := true) (et_test (ev_notTup rfl (.word n))) (fun z => nomatch z)) rfl) (fun _ H1 e1 => s_ret (ev_var rfl) fun H2 e2 => k _ H2 (e1.trans e2) (.str n)) (fun z => nomatch z)
  | @node a h vs ts e hs nb =>
    refine q_when (b := Thg.leafy h) (et_is (et_or (a := false) (et_test (ev_notTup rfl (.node e hs nb))) (fun _ => et_test (ev_leafy rfl e))) rfl) (fun hl H1 e1 => ?_) (fun hl H1 e1 => ?_)
    · obtain ⟨n, en⟩ := wf.2.1 hl
      refine s_ret (ev_var rfl) fun H2 e2 => k _ H2 (e1.trans e2) ?_
      rw [Thg.root_leafy hl en]
      subst en
      cases hs with
      | cons a1 a2 =>
        cases a1
        cases a2
        exact .tup (st_of (e2 _ _ (e1 _ _ e))) (.cons (.str h) (.cons (.int _) .nil))
    · refine q_when (et_call rfl (e1 _ _ e) nb) (fun z => nomatch z) (fun _ H1' e1' => ?_)
      have e1 := e1.trans e1'
      refine s_retU (eu_tup (ea_cons (ev_op (ev_var rfl) ev_c (rv_ixT (st_of (e1 _ _ e)) (atI_nat (j := 0) rfl))) (ea_cons (ev_op (ev_cb (z := .int ((V.str h :: vs).length : Nat)) (ea_cons (ev_var rfl) ea_nil) fun H2 e2 Q q => ⟨_, _, rfl, .inr ⟨_, st_of (e2 _ _ (e1 _ _ e)), rfl⟩, q H2 (Ex.refl H2)⟩) ev_c rv_I0) ea_nil)) (by show 2 ≤ 100000; decide)) fun p H2 _ e2 h2 => k _ H2 (e1.trans e2) ?_
      rw [Thg.root_node hl]
      have ln : (((V.str h :: vs).length : Nat) : Int) - 1 = (ts.length : Nat) := by
        have := hs.len
        rw [List.length_cons, this]
        omega
      rw [ln] at h2
      exact .tup (st_of h2) (.cons (.str h) (.cons (.int _) .nil))
theorem scSame : FnScope ["one", "other", "todo", "part", "thing"] ["one", "other"] (defScope (top 8)) := ⟨rfl, rfl, rfl, by decide +kernel, rfl, by decide +kernel, by decide +kernel⟩
theorem ok_same (F : FnT K "are_same" (top 8) f fd) (T : Fm P w K mg base) : FnOk P w K mg base CX0 2 f fd ["one", "other"] spSame := by
  have sc := scSame
  refine F.ok scSame (fun vs H Q E h => ?_) (fun cdv A outer s H vs Q E hr h => ?_)
  · obtain ⟨_, _, _, _, rfl, _⟩ := h
    rfl
  refine ⟨_, PSs.nox (pss_cons (ps_set (i := 2) sc.nd rfl (Or.inl rfl) (pe_lst (pa_cons (pe_tup (pa_cons (pv 0) (pa_cons (pv 1) pa_nil))) pa_nil)))
      (pss_cons (ps_while PassesOwn.never (pt_truth (pv 2) (by intro _; rfl)) (pss_cons (ps_asg (pe_bm0 PySem.F.plainAttrs_list PySem.F.slot_list_pop PySem.F.type_list_pop mt_pop (pv 2)) (pg_tup rfl (pgs_cons (pg_name (i := 3) sc.nd rfl (Or.inl rfl)) (pgs_cons (pg_name (i := 4) sc.nd rfl (Or.inl rfl)) pgs_nil))))
      (pss_cons (ps_if (pt_cmpR (op_neD hr.units) (pe_callH T.hroot hr pass0 (pa_cons (pv 3) pa_nil)) (pe_callH T.hroot hr pass0 (pa_cons (pv 4) pa_nil)) (nomark _)) (pss_one (ps_ret pe_bl)) pss_nil)
      (pss_one (ps_expr (pe_bm PySem.F.plainAttrs_list PySem.F.slot_list_extend PySem.F.type_list_extend mt_extend (pv 2) (pa_cons (pe_listZip rfl (by rfl) T.list (by rfl) T.zip (pa_cons (pe_callH T.hthings_within hr pass0 (pa_cons (pv 3) pa_nil)) (pa_cons (pe_callH T.hthings_within hr pass0 (pa_cons (pv 4) pa_nil)) pa_nil))) pa_nil)))))))
      (pss_one (ps_ret pe_bl)))), ?_⟩
  obtain ⟨va, vb, a, b, rfl, ta, tb, wa, wb, hz, k⟩ := h
  refine ⟨_, rfl, _, rfl, by show 2 ≤ sizeLine; decide, fun T0 hT0 => ⟨by show 1 ≤ sizeLine; decide, fun td htd => ?_⟩⟩
  dsimp only [gName]
  have e1 := Ex.new (o := .tup [va, vb]) hT0
  have e2 := Ex.new (o := .lst [.ref T0]) htd
  have ntd : H td = none := fresh_back e1 htd
  refine q_while (fun m σ' H' => ∃ qs S x3 x4, σ' = [some va, some vb, some (.ref td), x3, x4] ∧ H' td = some (.lst qs) ∧ Ex H H' ∧ Prs H' qs S ∧ (a = b ↔ ∀ p ∈ S, p.1 = p.2) ∧ (∀ p ∈ S, p.1.Wf ∧ p.2.Wf) ∧ m = wtP S ∧ wtP S ≤ 50000) (wtP [(a, b)]) ?_ ?_
  · refine ⟨_, [(a, b)], _, _, rfl, upd_same, e1.trans e2, .cons (e2 _ _ upd_same) (ta.mono (TupEx.of (e1.trans e2))) (tb.mono (TupEx.of (e1.trans e2))) .nil, by simp, by simp [wa, wb], rfl, ?_⟩
    show a.pre.length + 0 ≤ 50000
    omega
  · rintro m σ' H' ⟨qs, S, x3, x4, rfl, hq, ex, hp, iff_, wf, rfl, hw⟩
    refine ⟨!qs.isEmpty, et_lst rfl hq, fun hb2 H2 e4 => ?_, fun hb2 H2 e4 => ?_⟩
    · rcases List.eq_nil_or_concat S with rfl | ⟨S0, ⟨c, d⟩, rfl⟩
      · cases hp
        cases hb2
      · rw [List.concat_eq_append] at hp wf iff_ hw ⊢
        refine ⟨fun σ2 H2 => ∃ m', m' < wtP (S0 ++ [(c, d)]) ∧ ∃ qs S x3 x4, σ2 = [some va, some vb, some (.ref td), x3, x4] ∧ H2 td = some (.lst qs) ∧ Ex H H2 ∧ Prs H2 qs S ∧ (a = b ↔ ∀ p ∈ S, p.1 = p.2) ∧ (∀ p ∈ S, p.1.Wf ∧ p.2.Wf) ∧ m' = wtP S ∧ wtP S ≤ 50000, fun σ2 H3 z => z, ?_⟩
        obtain ⟨q1, q2, rfl, p1, p2⟩ := hp.split
        cases p2 with
        | @cons T1 x y _ _ _ _ eT hx hy p3 =>
          cases p3
          obtain ⟨wc, wd⟩ := wf (c, d) (by simp)
          have wc : c.Wf := wc
          have wd : d.Wf := wd
          have hq2 := e4 _ _ hq
          have Ttd : T1 ≠ td := fun z => by
            rw [z, hq] at eT
            cases eT
          refine ⟨_, rfl, .inl ⟨rfl, _, sq_of hq2⟩, td, q1 ++ [.ref T1], .ref T1, rfl, rfl, hq2, snoc_last q1 _, ?_⟩
          rw [List.dropLast_concat]
          refine ⟨T1, [x, y], rfl, st_of (by rw [upd_ne Ttd]; exact e4 _ _ eT), rfl, _, _, rfl, _, _, rfl, rfl, ?_⟩
          have t4 : TupEx H' (upd H2 td (.lst q1)) := (TupEx.of e4).trans (TupEx.lst hq2)
          have ex4 : Ex H (upd H2 td (.lst q1)) := (ex.trans e4).mut ntd
          have hq4 : upd H2 td (.lst q1) td = some (.lst q1) := upd_same
          have p14 := p1.mono t4
          have hx4 := hx.mono t4
          have hy4 := hy.mono t4
          revert t4 ex4 hq4 p14 hx4 hy4
          generalize upd H2 td (.lst q1) = H4
          intro t4 ex4 hq4 p14 hx4 hy4
          dsimp only
          refine q_when (b := !PyData.eqv c.rootD d.rootD) (et_test (fun H5 e5 Q5 q5 => ⟨_, rfl, x, c, rfl, hx4.mono (TupEx.of e5), wc, fun r1 H6 e6 d1 => ⟨_, rfl, y, d, rfl, hy4.mono (TupEx.of (e5.trans e6)), wd, fun r2 H7 e7 d2 => ⟨c.rootD, d.rootD, dp_ex e7 d1, d2, Thg.root_shaped wc, Thg.root_shaped wd, q5 H7 (e6.trans e7)⟩⟩⟩)) (fun hb3 H5 e5 => ?_) (fun hb3 H5 e5 => ?_)
          · have nd : c ≠ d := Thg.root_ne wc (by simpa using hb3)
            refine s_ret ev_c fun H6 e6 => k false H6 ((ex4.trans e5).trans e6) ⟨(fun z => nomatch z), fun z => absurd (iff_.mp z (c, d) (by simp)) nd⟩
          · obtain ⟨r1, r2, _⟩ := Thg.root_eq wc wd (by simpa using hb3)
            have hq5 := e5 _ _ hq4
            have wts : wtP (S0 ++ [(c, d)]) = wtP S0 + c.pre.length := by
              rw [wtP_app]
              show _ + (c.pre.length + 0) = _
              omega
            have cpre : c.pre.length = (Thg.preL c.kids).length + 1 := by rw [Thg.pre_eq]; rfl
            have wz := wtP_zip c.kids d.kids
            have wn : wtP (S0 ++ c.kids.zip d.kids) = wtP S0 + wtP (c.kids.zip d.kids) := wtP_app _ _
            refine ⟨_, rfl, .inl ⟨rfl, _, sq_of hq5⟩, _, rfl, x, c, rfl, hx4.mono (TupEx.of e5), fun z1 u1 H6 e6 h6 t6 => ⟨_, rfl, y, d, rfl, hy4.mono (TupEx.of (e5.trans e6)), fun z2 u2 H7 e7 h7 t7 => ⟨z1, z2, u1, u2, rfl, st_of (e7 _ _ h6), st_of h7, fun zp Ts H8 hz8 e8 h8 l8 a8 => ?_⟩⟩⟩
            have e58 := (e6.trans e7).trans e8
            have pz := Prs.zip (t6.mono (TupEx.of (e7.trans e8))) (t7.mono (TupEx.of e8)) l8 a8
            have hq8 := e58 _ _ hq5
            have lp1 := p1.len
            have lp2 := wtP_len S0
            have lpz := pz.len
            have lpz2 := wtP_len (c.kids.zip d.kids)
            have t9 : TupEx H8 (upd H8 td (.lst (q1 ++ Ts.map V.ref))) := TupEx.lst hq8
            refine ⟨td, zp, q1, Ts.map V.ref, rfl, rfl, hq8, h8, sz_of (by omega), ?_⟩
            refine ⟨wtP (S0 ++ c.kids.zip d.kids), by omega, _, S0 ++ c.kids.zip d.kids, _, _, rfl, upd_same, (((ex4.trans e5).trans e58).mut ntd), Prs.app (pz.mono t9) ((p14.mono (TupEx.of (e5.trans e58))).mono t9), ?_, ?_, rfl, by omega⟩
            · rw [iff_]
              have zz := zip_all r1
              constructor
              · intro h p hp
                rcases List.mem_append.mp hp with q | q
                · exact h p (List.mem_append_left _ q)
                · have cd : c = d := h (c, d) (by simp)
                  exact zz.mp (by rw [cd]) p q
              · intro h p hp
                rcases List.mem_append.mp hp with q | q
                · exact h p (List.mem_append_left _ q)
                · rw [List.mem_singleton.mp q]
                  exact r2 (zz.mpr fun p hp => h p (List.mem_append_right _ hp))
            · intro p hp
              rcases List.mem_append.mp hp with q | q
              · exact wf p (List.mem_append_left _ q)
              · exact ⟨wc.kids.mem p.1 (List.of_mem_zip (show (p.1, p.2) ∈ _ from q)).1, wd.kids.mem p.2 (List.of_mem_zip (show (p.1, p.2) ∈ _ from q)).2⟩
    · have e0 : qs = [] := by
        cases qs with
        | nil => rfl
        | cons _ _ => cases hb2
      subst e0
      cases hp
      exact s_ret ev_c fun H3 e5 => k true H3 ((ex.trans e4).trans e5) ⟨fun _ => iff_.mpr (by simp), fun _ => rfl⟩
end
end K03
set_option maxHeartbeats 16000000
namespace K03
open PySem PySem.Spec PyProof.Rows L2 Evl LL
/-- the filling that leads from ts to os, if there is one -/
def spMatched : Sp := fun vs H Q _ => ∃ b o us zs ts os, vs = [.ref b, .ref o] ∧ H b = some (.tup us) ∧ H o = some (.tup zs) ∧ Tvs H us ts ∧ Tvs H zs os ∧ Thg.WfL ts ∧ Thg.WfL os ∧ ts.length = os.length ∧ (Thg.preL ts).length ≤ 50000 ∧ (Thg.preL os).length ≤ 50000 ∧
  (∀ H', Ex H H' → (∀ G, Thg.subL (all_ G) ts ≠ os) → Q .non H') ∧
  ∀ g kvs f H', H g = none → Ex H H' → H' g = some (.dK kvs) → Fv H' kvs f → KeyI kvs → (∀ G, (∀ n t, f n = some t → G n = t) → Thg.subL (all_ G) ts = os) → (∀ n, n ∈ Thg.unkL ts ↔ f n ≠ none) → (∀ n t, f n = some t → t.Wf) → Q (.ref g) H'
structure Fk (P : Program) (w : World) (K : PySem.W.Frag) (mg : Str → Option Value) (base : Heap) : Prop extends Fm P w K mg base where
  hare_same : Has P w K mg base CX0 "are_same" 2 ["one", "other"] spSame
/-- what holds between two turns -/
structure Mi (ts os : List Thg) (S : List (Thg × Thg)) (kvs : List (Key × V)) (f : Int → Option Thg) (H : Hp) : Prop where
  fv : Fv H kvs f
  key : KeyI kvs
  iff_ : ∀ G, Thg.subL (all_ G) ts = os ↔ (∀ p ∈ S, Thg.sub (all_ G) p.1 = p.2) ∧ ∀ n t, f n = some t → G n = t
  dom : ∀ n, n ∈ Thg.unkL ts ↔ (f n ≠ none ∨ n ∈ unkP S)
  wf : ∀ p ∈ S, p.1.Wf ∧ p.2.Wf ∧ p.2.pre.length ≤ 50000
  wg : ∀ n t, f n = some t → t.Wf ∧ t.pre.length ≤ 50000
  sz : kvs.length + wtP S ≤ 50000
theorem Mi.mono {ts os : List Thg} {S : List (Thg × Thg)} {kvs : List (Key × V)} {f : Int → Option Thg} {H H' : Hp} (e : TupEx H H') (m : Mi ts os S kvs f H) : Mi ts os S kvs f H' := ⟨m.fv.mono e, m.key, m.iff_, m.dom, m.wf, m.wg, m.sz⟩
theorem preL_mem : ∀ {ts : List Thg} {t : Thg}, t ∈ ts → t.pre.length ≤ (Thg.preL ts).length
  | x :: xs, t, h => by
    show _ ≤ (Thg.pre x ++ Thg.preL xs).length
    rw [List.length_append]
    rcases List.mem_cons.mp h with e | e
    · rw [e]; omega
    · have := preL_mem e; omega
theorem Mi.start {ts os : List Thg} {H : Hp} (wt : Thg.WfL ts) (wo : Thg.WfL os) (hl : ts.length = os.length) (z1 : (Thg.preL ts).length ≤ 50000) (z2 : (Thg.preL os).length ≤ 50000) : Mi ts os (ts.zip os) [] (fun _ => none) H :=
  ⟨fun n => ⟨fun v hv => by simp [valV] at hv, fun _ => rfl⟩, ⟨by simp, nofun⟩, fun G => by rw [zip_sub hl]; simp, fun n => by rw [unkP_zip hl]; simp,
    fun p hp => ⟨wt.mem p.1 (List.of_mem_zip (show (p.1, p.2) ∈ _ from hp)).1, wo.mem p.2 (List.of_mem_zip (show (p.1, p.2) ∈ _ from hp)).2, Nat.le_trans (preL_mem (List.of_mem_zip (show (p.1, p.2) ∈ _ from hp)).2) z2⟩, nofun, by rw [wtP_zip_eq hl]; simpa using z1⟩
section
variable {ts os : List Thg} {S : List (Thg × Thg)} {kvs : List (Key × V)} {f : Int → Option Thg} {H : Hp} {c d : Thg} {n : Int}
theorem wtP_snoc (S : List (Thg × Thg)) (c d : Thg) : wtP (S ++ [(c, d)]) = wtP S + c.pre.length := by
  rw [wtP_app]
  show _ + (c.pre.length + 0) = _
  omega
/-- an unknown that has a thing already -/
theorem Mi.known (m : Mi ts os (S ++ [(.node "?" [.num n], d)]) kvs f H) {t : Thg} (hf : f n = some t) : (t = d → Mi ts os S kvs f H) ∧ (t ≠ d → ∀ G, Thg.subL (all_ G) ts ≠ os) := by
  refine ⟨fun e => ⟨m.fv, m.key, fun G => ?_, fun k => ?_, fun p hp => m.wf p (List.mem_append_left _ hp), m.wg, ?_⟩, fun e G z => ?_⟩
  · rw [m.iff_]
    constructor
    · exact fun h => ⟨fun p hp => h.1 p (List.mem_append_left _ hp), h.2⟩
    · intro h
      refine ⟨fun p hp => ?_, h.2⟩
      rcases List.mem_append.mp hp with q | q
      · exact h.1 p q
      · rw [List.mem_singleton.mp q]
        show Thg.sub (all_ G) (.node "?" [.num n]) = d
        rw [Thg.sub_open, h.2 n t hf, e]
  · rw [m.dom, unkP_app, List.mem_append]
    have e1 : unkP [((.node "?" [.num n] : Thg), d)] = [n] := by simp [unkP, Thg.unkL, Thg.preL, Thg.pre, Thg.leafy, Thg.unk]
    rw [e1, List.mem_singleton]
    constructor
    · rintro (h | h | h)
      · exact .inl h
      · exact .inr h
      · rw [h, hf]
        exact .inl (by simp)
    · rintro (h | h)
      · exact .inl h
      · exact .inr (.inl h)
  · have := m.sz
    rw [wtP_snoc] at this
    omega
  · obtain ⟨h1, h2⟩ := (m.iff_ G).mp z
    have q : Thg.sub (all_ G) (.node "?" [.num n]) = d := h1 (.node "?" [.num n], d) (by simp)
    rw [Thg.sub_open, h2 n t hf] at q
    exact e q
/-- an unknown that gets its thing -/
theorem Mi.put (m : Mi ts os (S ++ [(.node "?" [.num n], d)]) kvs f H) (hf : f n = none) (hk : valV kvs (.inl n) = none) {v : V} (hv : Tv H v d) : Mi ts os S (putK kvs (.inl n) v) (fun k => if k = n then some d else f k) H := by
  obtain ⟨_, wd, zd⟩ := m.wf (.node "?" [.num n], d) (by simp)
  refine ⟨fun k => ?_, m.key.put hk, fun G => ?_, fun k => ?_, fun p hp => m.wf p (List.mem_append_left _ hp), fun k t h => ?_, ?_⟩
  · rw [valV_put hk]
    try dsimp only
    by_cases e : k = n
    · rw [if_pos e, if_pos e]
      exact ⟨fun u hu => ⟨d, rfl, by cases hu; exact hv⟩, fun z => nomatch z⟩
    · rw [if_neg e, if_neg e]
      exact m.fv k
  · rw [m.iff_]
    constructor
    · intro h
      refine ⟨fun p hp => h.1 p (List.mem_append_left _ hp), fun k t hk2 => ?_⟩
      try dsimp only at hk2
      by_cases e : k = n
      · rw [if_pos e] at hk2
        cases hk2
        have q : Thg.sub (all_ G) (.node "?" [.num n]) = d := h.1 (.node "?" [.num n], d) (by simp)
        rw [Thg.sub_open] at q
        rw [e, q]
      · rw [if_neg e] at hk2
        exact h.2 k t hk2
    · intro h
      refine ⟨fun p hp => ?_, fun k t hk2 => h.2 k t ?_⟩
      · rcases List.mem_append.mp hp with q | q
        · exact h.1 p q
        · rw [List.mem_singleton.mp q]
          show Thg.sub (all_ G) (.node "?" [.num n]) = d
          rw [Thg.sub_open]
          exact h.2 n d (if_pos rfl)
      · try dsimp only
        rw [if_neg (fun e => by rw [e, hf] at hk2; cases hk2)]
        exact hk2
  · rw [m.dom, unkP_app, List.mem_append]
    have e1 : unkP [((.node "?" [.num n] : Thg), d)] = [n] := by simp [unkP, Thg.unkL, Thg.preL, Thg.pre, Thg.leafy, Thg.unk]
    rw [e1, List.mem_singleton]
    try dsimp only
    by_cases e : k = n
    · simp [e]
    · simp [e]
  · try dsimp only at h
    by_cases e : k = n
    · rw [if_pos e] at h
      cases h
      exact ⟨wd, zd⟩
    · rw [if_neg e] at h
      exact m.wg k t h
  · have := m.sz
    rw [wtP_snoc, Thg.pre_eq, List.length_cons] at this
    rw [putK_new hk, List.length_append, List.length_singleton]
    omega
/-- a closed part of another root -/
theorem Mi.unlike (m : Mi ts os (S ++ [(c, d)]) kvs f H) (ho : c.isO = false) (h : PyData.eqv c.rootD d.rootD = false) : ∀ G, Thg.subL (all_ G) ts ≠ os := fun G z => by
  obtain ⟨h1, _⟩ := (m.iff_ G).mp z
  exact Thg.sub_ne (all_ G) (m.wf (c, d) (by simp)).1 ho h (h1 (c, d) (by simp))
/-- a closed part of the same root -/
theorem Mi.deeper (m : Mi ts os (S ++ [(c, d)]) kvs f H) (ho : c.isO = false) (h : PyData.eqv c.rootD d.rootD = true) : Mi ts os (S ++ c.kids.zip d.kids) kvs f H := by
  obtain ⟨wc, wd, zd⟩ := m.wf (c, d) (by simp)
  have wc : c.Wf := wc
  have wd : d.Wf := wd
  have zd : d.pre.length ≤ 50000 := zd
  obtain ⟨r1, _, _⟩ := Thg.root_eq wc wd h
  refine ⟨m.fv, m.key, fun G => ?_, fun k => ?_, fun p hp => ?_, m.wg, ?_⟩
  · rw [m.iff_]
    have q := Thg.sub_root (all_ G) wc wd ho h
    constructor
    · intro z
      refine ⟨fun p hp => ?_, z.2⟩
      rcases List.mem_append.mp hp with r | r
      · exact z.1 p (List.mem_append_left _ r)
      · exact q.mp (z.1 (c, d) (by simp)) p r
    · intro z
      refine ⟨fun p hp => ?_, z.2⟩
      rcases List.mem_append.mp hp with r | r
      · exact z.1 p (List.mem_append_left _ r)
      · rw [List.mem_singleton.mp r]
        exact q.mpr fun p hp => z.1 p (List.mem_append_right _ hp)
  · rw [m.dom, unkP_app, unkP_app, unkP_zip r1]
    have e1 : unkP [(c, d)] = Thg.unkL c.kids := by
      show Thg.unkL [c] = _
      rw [Thg.unkL_one, Thg.unk_closed ho]
      rfl
    rw [e1]
  · rcases List.mem_append.mp hp with r | r
    · exact m.wf p (List.mem_append_left _ r)
    · have q := List.of_mem_zip (show (p.1, p.2) ∈ _ from r)
      refine ⟨wc.kids.mem p.1 q.1, wd.kids.mem p.2 q.2, ?_⟩
      have := preL_mem q.2
      rw [Thg.pre_eq d, List.length_cons] at zd
      exact Nat.le_trans this (by omega)
  · have := m.sz
    rw [wtP_snoc, Thg.pre_eq c, List.length_cons] at this
    rw [wtP_app, wtP_zip_eq r1]
    omega
end
end K03
set_option maxHeartbeats 16000000
namespace K03
open PySem PySem.Spec PyProof.Rows L2 Evl LL
section
variable {P : Program} {w : World} {K : PySem.W.Frag} {mg : Str → Option Value} {base : Heap} {f : Addr} {fd : FuncData}
theorem scMatched : FnScope ["bundle", "other", "found", "todo", "part", "thing"] ["bundle", "other"] (defScope (top 11)) := ⟨rfl, rfl, rfl, by decide +kernel, rfl, by decide +kernel, by decide +kernel⟩
theorem ok_matched (F : FnT K "matched" (top 11) f fd) (T : Fk P w K mg base) : FnOk P w K mg base CX0 3 f fd ["bundle", "other"] spMatched := by
  have sc := scMatched
  refine F.ok scMatched (fun vs H Q E h => ?_) (fun cdv A outer s H vs Q E hr h => ?_)
  · obtain ⟨_, _, _, _, _, _, rfl, _⟩ := h
    rfl
  refine ⟨_, PSs.nox (pss_cons (ps_set (i := 2) sc.nd rfl (Or.inl rfl) pe_dnewK)
      (pss_cons (ps_set (i := 3) sc.nd rfl (Or.inl rfl) (pe_listZip rfl (by rfl) T.list (by rfl) T.zip (pa_cons (pv 0) (pa_cons (pv 1) pa_nil))))
      (pss_cons (ps_while PassesOwn.never (pt_truth (pv 3) (by intro _; rfl)) (pss_cons (ps_asg (pe_bm0 PySem.F.plainAttrs_list PySem.F.slot_list_pop PySem.F.type_list_pop mt_pop (pv 3)) (pg_tup rfl (pgs_cons (pg_name (i := 4) sc.nd rfl (Or.inl rfl)) (pgs_cons (pg_name (i := 5) sc.nd rfl (Or.inl rfl)) pgs_nil))))
      (pss_one (ps_if (pt_val (pe_callH T.his_open hr pass0 (pa_cons (pv 4) pa_nil))) (pss_one (ps_if (pt_cmp (pc_dnotin (Nat.lt_of_le_of_lt (Nat.add_le_add_left (by decide : 1 ≤ 64) _) hr.units) (pe_ix ix_tup (pv 4) pe_int (fun _ _ => rfl)) (pv 2))) (pss_one (ps_asg (pv 5) (pg_sub (pv 2) (pe_ix ix_tup (pv 4) pe_int (fun _ _ => rfl)) (set_dict (Nat.lt_of_le_of_lt (Nat.add_le_add_left (by decide : 1 ≤ 64) _) hr.units))))) (pss_one (ps_if (pt_not (pt_val (pe_callH T.hare_same hr pass0 (pa_cons (pe_dget (Nat.lt_of_le_of_lt (Nat.add_le_add_left (by decide : 1 ≤ 64) _) hr.units) (pv 2) (pe_ix ix_tup (pv 4) pe_int (fun _ _ => rfl)) (fun _ _ => rfl)) (pa_cons (pv 5) pa_nil))))) (pss_one (ps_ret pe_non)) pss_nil)))) (pss_one (ps_if (pt_cmpR (op_neD hr.units) (pe_callH T.hroot hr pass0 (pa_cons (pv 4) pa_nil)) (pe_callH T.hroot hr pass0 (pa_cons (pv 5) pa_nil)) (nomark _)) (pss_one (ps_ret pe_non)) (pss_one (ps_expr (pe_bm PySem.F.plainAttrs_list PySem.F.slot_list_extend PySem.F.type_list_extend mt_extend (pv 3) (pa_cons (pe_listZip rfl (by rfl) T.list (by rfl) T.zip (pa_cons (pe_callH T.hthings_within hr pass0 (pa_cons (pv 4) pa_nil)) (pa_cons (pe_callH T.hthings_within hr pass0 (pa_cons (pv 5) pa_nil)) pa_nil))) pa_nil))))))))))
      (pss_one (ps_ret (pv 2)))))), ?_⟩
  obtain ⟨b, o, us, zs, ts, os, rfl, hb, ho, tu, tz, wt, wo, hl, z1, z2, kN, kS⟩ := h
  refine fun g hg => ?_
  dsimp only [gName]
  have e1 := Ex.new (o := .dK []) hg
  refine ⟨_, rfl, _, rfl, b, o, us, zs, rfl, st_of (e1 _ _ hb), st_of (e1 _ _ ho), fun td Ts H2 htd e2 h2 l2 a2 => ?_⟩
  dsimp only [gName]
  have ntd : H td = none := fresh_back e1 htd
  have gtd : g ≠ td := fun e => by
    rw [← e, upd_same] at htd
    cases htd
  refine q_while (fun m σ' H' => ∃ qs S kvs f x4 x5, σ' = [some (.ref b), some (.ref o), some (.ref g), some (.ref td), x4, x5] ∧ H' td = some (.lst qs) ∧ H' g = some (.dK kvs) ∧ Ex H H' ∧ Prs H' qs S ∧ Mi ts os S kvs f H' ∧ m = wtP S) (wtP (ts.zip os)) ?_ ?_
  · exact ⟨_, ts.zip os, [], fun _ => none, _, _, rfl, h2, e2 _ _ upd_same, e1.trans e2, Prs.zip (tu.mono (TupEx.of (e1.trans e2))) (tz.mono (TupEx.of (e1.trans e2))) l2 a2, Mi.start wt wo hl z1 z2, rfl⟩
  · rintro m σ' H' ⟨qs, S, kvs, f, x4, x5, rfl, hq, hG, ex, hp, mi, rfl⟩
    refine ⟨!qs.isEmpty, et_lst rfl hq, fun hb2 H3 e4 => ?_, fun hb2 H3 e4 => ?_⟩
    · rcases List.eq_nil_or_concat S with rfl | ⟨S0, ⟨c, d⟩, rfl⟩
      · cases hp
        cases hb2
      · rw [List.concat_eq_append] at hp mi ⊢
        refine ⟨fun σ2 H2 => ∃ m', m' < wtP (S0 ++ [(c, d)]) ∧ ∃ qs S kvs f x4 x5, σ2 = [some (.ref b), some (.ref o), some (.ref g), some (.ref td), x4, x5] ∧ H2 td = some (.lst qs) ∧ H2 g = some (.dK kvs) ∧ Ex H H2 ∧ Prs H2 qs S ∧ Mi ts os S kvs f H2 ∧ m' = wtP S, fun σ2 H3 z => z, ?_⟩
        obtain ⟨q1, q2, rfl, p1, p2⟩ := hp.split
        cases p2 with
        | @cons T1 x y _ _ _ _ eT hx hy p3 =>
          cases p3
          obtain ⟨wc, wd, zd⟩ := mi.wf (c, d) (by simp)
          have wc : c.Wf := wc
          have wd : d.Wf := wd
          have hq2 := e4 _ _ hq
          have Ttd : T1 ≠ td := fun z => by
            rw [z, hq] at eT
            cases eT
          refine ⟨_, rfl, .inl ⟨rfl, _, sq_of hq2⟩, td, q1 ++ [.ref T1], .ref T1, rfl, rfl, hq2, snoc_last q1 _, ?_⟩
          rw [List.dropLast_concat]
          refine ⟨T1, [x, y], rfl, st_of (by rw [upd_ne Ttd]; exact e4 _ _ eT), rfl, _, _, rfl, _, _, rfl, rfl, ?_⟩
          have t4 : TupEx H' (upd H3 td (.lst q1)) := (TupEx.of e4).trans (TupEx.lst hq2)
          have ex4 : Ex H (upd H3 td (.lst q1)) := (ex.trans e4).mut ntd
          have hq4 : upd H3 td (.lst q1) td = some (.lst q1) := upd_same
          have hG4 : upd H3 td (.lst q1) g = some (.dK kvs) := by rw [upd_ne gtd]; exact e4 _ _ hG
          have p14 := p1.mono t4
          have hx4 := hx.mono t4
          have hy4 := hy.mono t4
          have mi4 := mi.mono t4
          revert t4 ex4 hq4 hG4 p14 hx4 hy4 mi4
          generalize upd H3 td (.lst q1) = H4
          intro t4 ex4 hq4 hG4 p14 hx4 hy4 mi4
          dsimp only
          have szm := mi4.sz
          have wsn : wtP (S0 ++ [(c, d)]) = wtP S0 + c.pre.length := wtP_snoc _ _ _
          have cpre : c.pre.length = (Thg.preL c.kids).length + 1 := by rw [Thg.pre_eq]; rfl
          refine s_if (b := c.isO) (et_B fun H5 e5 Q5 q5 => ⟨_, rfl, x, c, rfl, hx4.mono (TupEx.of e5), fun H6 e6 => q5 H6 e6⟩) (fun hb3 H5 e5 => ?_) (fun hb3 H5 e5 => ?_)
          · cases c with
            | num _ => cases hb3
            | word _ => cases hb3
            | node h xs =>
              have h0 : h = "?" := by simpa [Thg.isO] using hb3
              subst h0
              obtain ⟨n, rfl⟩ := wc.okO rfl
              have hx5 := hx4.mono (TupEx.of e5)
              cases hx5 with
              | @node a _ vs _ ea hxs =>
                cases hxs with
                | cons hm h5 =>
                  cases h5
                  cases hm
                  have hG5 := e5 _ _ hG4
                  have mi5 := mi4.mono (TupEx.of e5)
                  have hy5 := hy4.mono (TupEx.of e5)
                  have evN : Ev (tDNotIn (tOp (rIxT K) (tVar 4) (tC (.int 1))) (tVar 2)) [some (.ref b), some (.ref o), some (.ref g), some (.ref td), some (.ref a), some y] H5 (.bl (!(valV kvs (.inl n)).isSome)) := fun H6 e6 Q6 q6 =>
                    ⟨_, rfl, a, _, 1, .int n, rfl, rfl, st_of (e6 _ _ ea), atI_nat (j := 1) rfl, _, rfl, g, _, rfl, DGet.k (k := .inl n) (e6 _ _ hG5), q6 H6 (Ex.refl H6)⟩
                  cases hvv : valV kvs (.inl n) with
                  | none =>
                    rw [hvv] at evN
                    have hf : f n = none := (mi5.fv n).2 hvv
                    refine s_if (b := true) (et_test evN) (fun _ H6 e6 => ?_) (fun z => nomatch z)
                    have t6 : TupEx H6 (upd H6 g (.dK (putK kvs (.inl n) y))) := fun a ys e => by
                      rw [upd_ne (fun z => by rw [z, e6 _ _ hG5] at e; cases e)]
                      exact e
                    refine ⟨_, rfl, _, rfl, _, rfl, a, _, 1, .int n, rfl, rfl, st_of (e6 _ _ ea), atI_nat (j := 1) rfl, g, _, rfl, DPut.k (k := .inl n) (e6 _ _ hG5) (sz_lt (by omega)), ?_⟩
                    have mp := ((mi5.mono (TupEx.of e6)).put hf hvv (hy5.mono (TupEx.of e6))).mono t6
                    exact ⟨wtP S0, by omega, q1, S0, putK kvs (.inl n) y, _, _, _, rfl, by rw [upd_ne (Ne.symm gtd)]; exact e6 _ _ (e5 _ _ hq4), upd_same, ((ex4.trans e5).trans e6).mut hg, (p14.mono (TupEx.of (e5.trans e6))).mono t6, mp, rfl⟩
                  | some v =>
                    rw [hvv] at evN
                    refine s_if (b := false) (et_test evN) (fun z => nomatch z) (fun _ H6 e6 => ?_)
                    obtain ⟨t0, f1, f2⟩ := (mi5.fv n).1 v hvv
                    obtain ⟨w0, z0⟩ := mi5.wg n t0 f1
                    obtain ⟨m1, m2⟩ := mi5.known f1
                    have dg := DGet.k (k := .inl n) (e6 _ _ hG5)
                    rw [hvv] at dg
                    refine ⟨_, rfl, _, rfl, a, _, 1, .int n, rfl, rfl, st_of (e6 _ _ ea), atI_nat (j := 1) rfl, g, v, rfl, dg, _, rfl, v, y, t0, d, rfl, f2.mono (TupEx.of e6), hy5.mono (TupEx.of e6), w0, wd, z0, fun r H7 e7 iff_ => ⟨r, rfl, ?_⟩⟩
                    have e67 := e6.trans e7
                    cases r with
                    | true =>
                      exact ⟨wtP S0, by omega, q1, S0, kvs, f, _, _, rfl, e67 _ _ (e5 _ _ hq4), e67 _ _ hG5, (ex4.trans e5).trans e67, p14.mono (TupEx.of (e5.trans e67)), (m1 (iff_.mp rfl)).mono (TupEx.of e67), rfl⟩
                    | false =>
                      exact s_ret ev_c fun H8 e8 => kN H8 (((ex4.trans e5).trans e67).trans e8) (m2 fun z => nomatch iff_.mpr z)
          · refine s_if (b := !PyData.eqv c.rootD d.rootD) (et_test (fun H6 e6 Q6 q6 => ⟨_, rfl, x, c, rfl, hx4.mono (TupEx.of (e5.trans e6)), wc, fun r1 H7 e7 d1 => ⟨_, rfl, y, d, rfl, hy4.mono (TupEx.of ((e5.trans e6).trans e7)), wd, fun r2 H8 e8 d2 => ⟨c.rootD, d.rootD, dp_ex e8 d1, d2, Thg.root_shaped wc, Thg.root_shaped wd, q6 H8 (e7.trans e8)⟩⟩⟩)) (fun hb4 H6 e6 => ?_) (fun hb4 H6 e6 => ?_)
            · exact s_ret ev_c fun H7 e7 => kN H7 (((ex4.trans e5).trans e6).trans e7) (mi4.unlike hb3 (by simpa using hb4))
            · have rq : PyData.eqv c.rootD d.rootD = true := by simpa using hb4
              have e56 := e5.trans e6
              have hq6 := e56 _ _ hq4
              have md := mi4.deeper hb3 rq
              have szd := md.sz
              have wn : wtP (S0 ++ c.kids.zip d.kids) = wtP S0 + wtP (c.kids.zip d.kids) := wtP_app _ _
              have wz := wtP_zip c.kids d.kids
              refine ⟨_, rfl, .inl ⟨rfl, _, sq_of hq6⟩, _, rfl, x, c, rfl, hx4.mono (TupEx.of e56), fun z1 u1 H7 e7 h7 t7 => ⟨_, rfl, y, d, rfl, hy4.mono (TupEx.of (e56.trans e7)), fun z2 u2 H8 e8 h8 t8 => ⟨z1, z2, u1, u2, rfl, st_of (e8 _ _ h7), st_of h8, fun zp Ts H9 hz9 e9 h9 l9 a9 => ?_⟩⟩⟩
              have e79 := (e7.trans e8).trans e9
              have pz := Prs.zip (t7.mono (TupEx.of (e8.trans e9))) (t8.mono (TupEx.of e9)) l9 a9
              have hq9 := e79 _ _ hq6
              have lp1 := p1.len
              have lp2 := wtP_len S0
              have lpz := pz.len
              have lpz2 := wtP_len (c.kids.zip d.kids)
              have t10 : TupEx H9 (upd H9 td (.lst (q1 ++ Ts.map V.ref))) := TupEx.lst hq9
              refine ⟨td, zp, q1, Ts.map V.ref, rfl, rfl, hq9, h9, sz_of (by omega), ?_⟩
              refine ⟨wtP (S0 ++ c.kids.zip d.kids), by omega, _, S0 ++ c.kids.zip d.kids, kvs, f, _, _, rfl, upd_same, ?_, ((ex4.trans e56).trans e79).mut ntd, Prs.app (pz.mono t10) ((p14.mono (TupEx.of (e56.trans e79))).mono t10), md.mono ((TupEx.of (e56.trans e79)).trans t10), rfl⟩
              rw [upd_ne gtd]
              exact e79 _ _ (e56 _ _ hG4)
    · have e0 : qs = [] := by
        cases qs with
        | nil => rfl
        | cons _ _ => cases hb2
      subst e0
      cases hp
      have mi3 := mi.mono (TupEx.of e4)
      refine s_ret (ev_var rfl) fun H5 e5 => kS g kvs f H5 hg ((ex.trans e4).trans e5) (e5 _ _ (e4 _ _ hG)) (mi3.mono (TupEx.of e5)).fv mi3.key (fun G h => (mi3.iff_ G).mpr ⟨nofun, h⟩) (fun n => ?_) fun n t h => (mi3.wg n t h).1
      rw [mi3.dom]
      simp [unkP, Thg.unkL, Thg.preL]
end
end K03
set_option maxHeartbeats 16000000
namespace K03
open PySem PySem.Spec PyProof.Rows L2 Evl LL
theorem wf_app {xs ys : List Thg} (h : Thg.WfL xs) (k : Thg.WfL ys) : Thg.WfL (xs ++ ys) := by
  induction xs with
  | nil => exact k
  | cons x xs ih => exact ⟨h.1, ih h.2⟩
theorem wf_step {ts : List Thg} (h : Thg.WfL ts) : Thg.WfL (Thg.step ts) := by
  cases ts with
  | nil => exact trivial
  | cons t ts => exact wf_app h.1.kids h.2
theorem wf_pre {ts : List Thg} (h : Thg.WfL ts) : ∀ t ∈ Thg.preL ts, t.Wf := by
  have go : ∀ n, Thg.WfL (Thg.steps ts n) := fun n => by
    induction n with
    | zero => exact h
    | succ n ih => exact wf_step ih
  intro t ht
  obtain ⟨n, hn, e⟩ := List.getElem_of_mem ht
  obtain ⟨rest, e1, _⟩ := Thg.at_ (show (Thg.preL ts)[n]? = some t by rw [List.getElem?_eq_getElem hn, e])
  have := go n
  rw [e1] at this
  exact this.1
def spFilled : Sp := fun vs H Q _ => ∃ b g us ts kvs f, vs = [.ref b, .ref g] ∧ H b = some (.tup us) ∧ Tvs H us ts ∧ Thg.WfL ts ∧ (Thg.preL ts).length ≤ 50000 ∧ H g = some (.dK kvs) ∧ Fv H kvs f ∧ ∀ p us' H', Ex H H' → H' p = some (.tup us') → Tvs H' us' (Thg.subL f ts) → Q (.ref p) H'
structure Ff (P : Program) (w : World) (K : PySem.W.Frag) (mg : Str → Option Value) (base : Heap) : Prop extends Fb P w K mg base where
  hall_parts : Has P w K mg base CX0 "all_parts" 2 ["bundle"] spAll
  hbuilt : Has P w K mg base CX0 "built" 2 ["parts", "filling"] spBuilt
section
variable {P : Program} {w : World} {K : PySem.W.Frag} {mg : Str → Option Value} {base : Heap} {f : Addr} {fd : FuncData}
theorem scFilled : FnScope ["bundle", "filling"] ["bundle", "filling"] (defScope (top 10)) := ⟨rfl, rfl, rfl, by decide +kernel, rfl, by decide +kernel, by decide +kernel⟩
theorem ok_filled (F : FnT K "filled" (top 10) f fd) (T : Ff P w K mg base) : FnOk P w K mg base CX0 3 f fd ["bundle", "filling"] spFilled := by
  have sc := scFilled
  refine F.ok scFilled (fun vs H Q E h => ?_) (fun cdv A outer s H vs Q E hr h => ?_)
  · obtain ⟨_, _, _, _, _, _, rfl, _⟩ := h
    rfl
  refine ⟨_, PSs.nox (pss_one (ps_ret (pe_callH T.hbuilt hr pass0 (pa_cons (pe_callH T.hall_parts hr pass0 (pa_cons (pv 0) pa_nil)) (pa_cons (pv 1) pa_nil))))), ?_⟩
  obtain ⟨b, g, us, ts, kvs, f, rfl, hb, hs, wf, hz, hg, hf, k⟩ := h
  refine ⟨_, rfl, b, us, ts, rfl, hb, hs, hz, fun p ws H1 e1 _ h1 t1 => ⟨_, rfl, p, g, ws, ts, kvs, f, rfl, h1, t1, fun t ht => (wf_pre wf t ht).okO, hz, e1 _ _ hg, hf.mono (TupEx.of e1), fun p2 us2 H2 e2 h2 t2 => k p2 us2 H2 (e1.trans e2) h2 t2⟩⟩
end
end K03
set_option maxHeartbeats 4000000
/-! t[:1] + tuple([.. for x in t[1:]]), told by relations. -/
namespace LL
open PySem PySem.Spec PyProof.Rows L2 Evl
def OneT (x : V) : VP := fun v H => ∃ p, v = .ref p ∧ H p = some (.tup [x])
theorem OneT.mon {x : V} : Mon (OneT x) := fun v H H' e ⟨p, h1, h2⟩ => ⟨p, h1, e _ _ h2⟩
section
variable {K : PySem.W.Frag} {σ : L2.St} {H : Hp} {te ta tb tl : TE} {R S : VP} {Rs Ss : List VP} {a : Addr} {x : V} {xs : List V}
theorem head_cut : cutV (x :: xs) none (some 1) = [x] := by
  unfold cutV
  have e1 : HT.sIx (x :: xs).length 0 none = 0 := rfl
  have e2 : HT.sIx (x :: xs).length (x :: xs).length (some 1) = 1 := by simp [HT.sIx]
  rw [e1, e2]
  simp
theorem head_whole (h : HT.sIx (x :: xs).length 0 none = 0 ∧ HT.sIx (x :: xs).length (x :: xs).length (some 1) = (x :: xs).length) : xs = [] := by
  have e2 : HT.sIx (x :: xs).length (x :: xs).length (some 1) = 1 := by simp [HT.sIx]
  have := h.2
  rw [e2] at this
  cases xs with
  | nil => rfl
  | cons y ys => simp at this
/-- t[:1] -/
theorem x_head (h : Ev te σ H (.ref a)) (hs : H a = some (.tup (x :: xs))) : EvX (L2.tSl (rSlA K) te tNoPart (tPart (tC (.int 1)))) σ H (OneT x) := fun H1 e Q q =>
  h H1 e _ fun H2 e2 => eo_none H2 (Ex.refl H2) _ fun H3 e3 => eo_some (ev_c (σ := σ) (H := H3)) H3 (Ex.refl H3) _ fun H4 e4 =>
    have hx := (e.trans (e2.trans (e3.trans e4))) _ _ hs
    ⟨a, x :: xs, rfl, st_of hx, fun w => q _ H4 (e2.trans (e3.trans e4)) ⟨a, rfl, by rw [head_whole w] at hx; exact hx⟩,
      fun _ p hp => q _ _ ((e2.trans (e3.trans e4)).trans (Ex.new hp)) ⟨p, rfl, by rw [head_cut]; exact upd_same⟩⟩
theorem tail_cut : cutV (x :: xs) (some 1) none = xs := by
  unfold cutV
  have e1 : HT.sIx (x :: xs).length 0 (some 1) = 1 := by simp [HT.sIx]
  have e2 : HT.sIx (x :: xs).length (x :: xs).length none = (x :: xs).length := rfl
  rw [e1, e2]
  simp
theorem tail_part : ¬ (HT.sIx (x :: xs).length 0 (some 1) = 0 ∧ HT.sIx (x :: xs).length (x :: xs).length none = (x :: xs).length) := by
  have e1 : HT.sIx (x :: xs).length 0 (some 1) = 1 := by simp [HT.sIx]
  rw [e1]
  simp
/-- t[1:] -/
theorem eu_tail (h : Ev te σ H (.ref a)) (hs : SqT K H a (x :: xs)) : EvU (L2.tSl (rSlT K) te (tPart (tC (.int 1))) tNoPart) σ H xs := fun H1 e Q q =>
  h H1 e _ fun H2 e2 => eo_some (ev_c (σ := σ) (H := H2)) H2 (Ex.refl H2) _ fun H3 e3 => eo_none H3 (Ex.refl H3) _ fun H4 e4 =>
    have hx := ex_t (e.trans (e2.trans (e3.trans e4))) hs
    ⟨a, x :: xs, rfl, hx, tail_part, fun p hp => q p _ (fresh_back (e2.trans (e3.trans e4)) hp) ((e2.trans (e3.trans e4)).trans (Ex.new hp)) (by rw [tail_cut]; exact upd_same)⟩
abbrev rTupE (K : PySem.W.Frag) : List V → Hp → VK → Prop := fun xs H Q => ∃ p ys, xs = [.ref p] ∧ ((SqL K H p ys ∧ ∀ l, H l = none → Q (.ref l) (upd H l (.tup ys))) ∨ (SqT K H p ys ∧ Q (.ref p) H))
/-- tuple(l), l a list -/
theorem x_tupOf (m : ∀ R ∈ Rs, MonT R) (h : EvX te σ H (LstOf Rs)) : EvX (tCB (rTupE K) (tCons te tNil)) σ H (TupOf Rs) := fun H1 e Q q =>
  h H1 e _ fun v H2 e2 ⟨p, ys, h1, h2, h3⟩ => ⟨p, ys, by rw [h1], .inl ⟨sq_of h2, fun l hl => q _ _ (e2.trans (Ex.new hl)) ⟨l, ys, rfl, upd_same, All2.monT m (TupEx.of (Ex.new hl)) h3⟩⟩⟩
/-- a head before a tuple -/
def HeadT (x : V) (Rs : List VP) : VP := fun v H => ∃ p ys, v = .ref p ∧ H p = some (.tup (x :: ys)) ∧ All2 Rs ys H
theorem x_catH (m : ∀ R ∈ Rs, MonT R) (hl : Rs.length ≤ 90000) (ha : EvX ta σ H (OneT x)) (hb : EvX tb σ H (TupOf Rs)) : EvX (tOp (rCatA K) ta tb) σ H (HeadT x Rs) := fun H1 e Q q =>
  ha H1 e _ fun v H2 e2 r => hb H2 (e.trans e2) _ fun u H3 e3 ⟨p, ys, h1, h2, h3⟩ => by
    obtain ⟨b, rfl, hb⟩ := r
    subst h1
    have hb3 := e3 _ _ hb
    have hlen := h3.len
    refine ⟨b, p, [x], ys, rfl, rfl, st_of hb3, st_of h2, sz_of (by rw [List.length_singleton]; omega), (fun z => nomatch z), (fun _ z => ?_), (fun _ _ l hl => ?_)⟩
    · subst z
      exact q _ H3 (e2.trans e3) ⟨b, [], rfl, hb3, h3⟩
    · exact q _ _ ((e2.trans e3).trans (Ex.new hl)) ⟨l, ys, rfl, upd_same, All2.monT m (TupEx.of (Ex.new hl)) h3⟩
end
end LL
set_option maxHeartbeats 16000000
namespace K03
open PySem PySem.Spec PyProof.Rows L2 Evl LL
theorem kit_int {K : PySem.W.Frag} : PySem.W.kitOne K (.type "int") (.type "tuple") = some false := by kernel_rfl
theorem kit_str {K : PySem.W.Frag} : PySem.W.kitOne K (.type "str") (.type "tuple") = some false := by kernel_rfl
theorem kit_tup {K : PySem.W.Frag} : PySem.W.kitOne K (.type "tuple") (.type "tuple") = some true := by kernel_rfl
theorem ev_instTup {K : PySem.W.Frag} {σ : L2.St} {H : Hp} {i : Nat} {v : V} {t : Thg} (hi : σ[i]? = some (some v)) (h : Tv H v t) : Ev (tCB (rIsi K) (tCons (tVar i) (tCons (tC (.ty "tuple")) tNil))) σ H (.bl (isTup t)) := by
  cases h with
  | num n => exact ev_cb (ea_cons (ev_var hi) (ea_cons ev_c ea_nil)) fun H1 _ Q q => ⟨_, _, _, _, _, rfl, .ty _, .base (.int n), kit_int, q H1 (Ex.refl H1)⟩
  | word s => exact ev_cb (ea_cons (ev_var hi) (ea_cons ev_c ea_nil)) fun H1 _ Q q => ⟨_, _, _, _, _, rfl, .ty _, .base (.str s), kit_str, q H1 (Ex.refl H1)⟩
  | node e hs => exact ev_cb (ea_cons (ev_var hi) (ea_cons ev_c ea_nil)) fun H1 e1 Q q => ⟨_, _, _, _, _, rfl, .ty _, .base (.tup (e1 _ _ e)), kit_tup, q H1 (Ex.refl H1)⟩
mutual
def dep : Thg → Nat
  | .node _ xs => deps xs + 1
  | _ => 1
def deps : List Thg → Nat
  | [] => 0
  | x :: xs => max (dep x) (deps xs)
end
theorem dep_mem {t : Thg} : ∀ {xs : List Thg}, t ∈ xs → dep t ≤ deps xs
  | x :: xs, h => by
    show _ ≤ max (dep x) (deps xs)
    rcases List.mem_cons.mp h with e | e
    · rw [e]; omega
    · have := dep_mem e; omega
theorem subL_map (f : Int → Option Thg) : ∀ ts : List Thg, Thg.subL f ts = ts.map (Thg.sub f)
  | [] => rfl
  | t :: ts => congrArg (Thg.sub f t :: ·) (subL_map f ts)
theorem tvs_get {H : Hp} {x : V} : ∀ {vs : List V} {ts : List Thg} {i : Nat}, Tvs H vs ts → vs[i]? = some x → ∃ t, ts[i]? = some t ∧ Tv H x t
  | _, _, i, .nil, h => by simp at h
  | _, _, 0, .cons h hs, e => by
    simp at e
    subst e
    exact ⟨_, rfl, h⟩
  | _, _, i + 1, .cons h hs, e => by
    obtain ⟨t, h1, h2⟩ := tvs_get hs (i := i) (by simpa using e)
    exact ⟨t, by simpa using h1, h2⟩
theorem pre_mem {t : Thg} : ∀ {ts : List Thg}, t ∈ ts → t.pre.length ≤ (Thg.preL ts).length
  | x :: xs, h => by
    show _ ≤ (Thg.pre x ++ Thg.preL xs).length
    rw [List.length_append]
    rcases List.mem_cons.mp h with e | e
    · rw [e]; omega
    · have := pre_mem e; omega
theorem pre_len : ∀ ts : List Thg, ts.length ≤ (Thg.preL ts).length
  | [] => Nat.zero_le _
  | t :: ts => by
    have := pre_len ts
    show ts.length + 1 ≤ (Thg.pre t ++ Thg.preL ts).length
    rw [List.length_append, Thg.pre_eq, List.length_cons]
    omega
/-- the things after a head, whatever it is: fewer -/
theorem pre_node {h : Str} {ts : List Thg} (w : (Thg.node h ts).Wf) (hz : (Thg.node h ts).pre.length ≤ 40000) : (Thg.preL ts).length ≤ 40000 := by
  cases hl : Thg.leafy h with
  | true =>
    obtain ⟨n, e⟩ := w.2.1 hl
    rw [e]
    simp [Thg.preL, Thg.pre]
  | false =>
    have e : (Thg.node h ts).kids = ts := by simp [Thg.kids, hl]
    rw [Thg.pre_eq, e, List.length_cons] at hz
    omega
theorem put_node {f : Int → Option Thg} {h : Str} {ts : List Thg} (w : (Thg.node h ts).Wf) (n0 : h ≠ "?") : Thg.sub f (.node h ts) = .node h (Thg.subL f ts) := by
  simp only [Thg.sub, if_neg n0]
  split
  · rename_i e
    obtain ⟨n, e2⟩ := w.2.1 (by rw [e]; decide)
    rw [e2]
    rfl
  · rfl
/-- the law's own putting -/
def spPut (n : Nat) : Sp := fun vs H Q _ => ∃ v g t kvs f, vs = [v, .ref g] ∧ Tv H v t ∧ t.Wf ∧ dep t ≤ n ∧ t.pre.length ≤ 40000 ∧ H g = some (.dK kvs) ∧ Fv H kvs f ∧ ∀ r H', Ex H H' → Tv H' r (Thg.sub f t) → Q r H'
structure Fq (P : Program) (w : World) (K : PySem.W.Frag) (mg : Str → Option Value) (base : Heap) (n : Nat) : Prop extends Fr mg where
  isinstance : mg "isinstance" = none
  h_law_put : Has P w K mg base CX0 "_law_put" n ["thing", "filling"] (spPut n)
section
variable {P : Program} {w : World} {K : PySem.W.Frag} {mg : Str → Option Value} {base : Heap} {f : Addr} {fd : FuncData}
theorem scPut : FnScope ["thing", "filling", "part"] ["thing", "filling"] (defScope (top 22)) := ⟨rfl, rfl, rfl, by decide +kernel, rfl, by decide +kernel, by decide +kernel⟩
theorem ok_put (n : Nat) (F : FnT K "_law_put" (top 22) f fd) (T : Fq P w K mg base n) : FnOk P w K mg base CX0 (n + 1) f fd ["thing", "filling"] (spPut (n + 1)) := by
  have sc := scPut
  refine F.ok scPut (fun vs H Q E h => ?_) (fun cdv A outer s H vs Q E hr h => ?_)
  · obtain ⟨_, _, _, _, _, rfl, _⟩ := h
    rfl
  refine ⟨_, PSs.nox (pss_cons (ps_if (pt_not (pt_val (pe_callB call_isi (by rfl) T.isinstance (by decide +kernel) (pa_cons (pv 0) (pa_cons (pe_bltn (v := .ty "tuple") (u := .type "tuple") (by rfl) T.tuple (by decide +kernel) rfl) pa_nil))))) (pss_one (ps_ret (pv 0))) pss_nil)
      (pss_cons (ps_if (pt_cmpR op_eq (pe_ix ix_tup (pv 0) pe_int (fun _ _ => rfl)) pe_str (nomark _)) (pss_one (ps_ret (pe_dget2 (Nat.lt_of_le_of_lt (Nat.add_le_add_left (by decide : 1 ≤ 64) _) hr.units) (pv 1) (pe_ix ix_tup (pv 0) pe_int (fun _ _ => rfl)) (pv 0) M2.ok))) pss_nil)
      (pss_one (ps_ret (pe_op op_catA (pe_slice sl_tupA (pv 0) po_none (po_some pe_int)) (pe_callTy call_tuple_of (by rfl) T.tuple (by decide +kernel) (pa_cons (pe_lc (own := [("part", 2)]) (tt := tYes) rfl sc.nd (pi_tup (pe_slice sl_tup (pv 0) (po_some pe_int) po_none)) (blkOk_by (N := ["thing", "filling", "part"]) (sc := defScope (top 22)) (by decide +kernel)) (fun _ _ _ _ _ => (pg_name (i := 2) sc.nd rfl (Or.inl rfl))) (fun _ _ _ _ _ => pts_nil) (fun _ _ _ _ _ => (by exact pe_callH (hj := Nat.le_refl _) T.h_law_put hr pass0 (pa_cons (pv 2) (pa_cons (pv 1) pa_nil))))) pa_nil))))))), ?_⟩
  obtain ⟨v, g, t, kvs, f, rfl, h, wf, hd, hz, hg, hf, k⟩ := h
  cases h with
  | num i => exact q_when (b := true) (et_not (et_B (ev_instTup rfl (.num i)))) (fun _ H1 e1 => s_ret (ev_var rfl) fun H2 e2 => k _ H2 (e1.trans e2) (.num i)) (fun z => nomatch z)
  | word i => exact q_when (b := true) (et_not (et_B (ev_instTup rfl (.word i)))) (fun _ H1 e1 => s_ret (ev_var rfl) fun H2 e2 => k _ H2 (e1.trans e2) (.word i)) (fun z => nomatch z)
  | @node a hd0 vs ts e hs nb =>
    refine q_when (b := false) (et_not (et_B (ev_instTup rfl (.node e hs nb)))) (fun z => nomatch z) (fun _ H1 e1 => ?_)
    have ea := e1 _ _ e
    refine q_when (b := decide (V.str hd0 = V.str "?")) (et_test (ev_op (ev_op (ev_var rfl) ev_c (rv_ixT (st_of ea) (atI_nat (j := 0) rfl))) ev_c (rv_eq rfl))) (fun hb H2 e2 => ?_) (fun hb H2 e2 => ?_)
    · have h0 : hd0 = "?" := V.str.inj (of_decide_eq_true hb)
      subst h0
      obtain ⟨m, rfl⟩ := wf.okO rfl
      cases hs with
      | cons hm h5 =>
        cases h5
        cases hm
        have ea2 := e2 _ _ ea
        have hg2 := e2 _ _ (e1 _ _ hg)
        refine s_ret (v := (valV kvs (.inl m)).getD (.ref a)) (fun H3 e3 Q3 q3 => ⟨_, rfl, g, rfl, .inl ⟨kvs, .inl (e3 _ _ hg2)⟩, _, rfl, a, _, 1, .int m, rfl, rfl, st_of (e3 _ _ ea2), atI_nat (j := 1) rfl, _, rfl, valV kvs (.inl m), DGet.k (k := .inl m) (e3 _ _ hg2), q3 H3 (Ex.refl H3)⟩) fun H3 e3 => k _ H3 ((e1.trans e2).trans e3) ?_
        have es : Thg.sub f (.node "?" [.num m]) = (f m).getD (.node "?" [.num m]) := by simp [Thg.sub]
        rw [es]
        have ex := (e1.trans e2).trans e3
        cases hvv : valV kvs (.inl m) with
        | none =>
          rw [(hf m).2 hvv]
          exact Tv.node (e3 _ _ ea2) (.cons (.num m) .nil)
        | some v2 =>
          obtain ⟨t2, f1, f2⟩ := (hf m).1 v2 hvv
          rw [f1]
          exact f2.mono (TupEx.of ex)
    · have n0 : hd0 ≠ "?" := fun z => of_decide_eq_false hb (by rw [z])
      have ea2 := e2 _ _ ea
      have e12 := e1.trans e2
      have hg2 := e12 _ _ hg
      have hp := pre_node wf hz
      have hpl := pre_len ts
      have hvl := hs.len
      have hll : ((Thg.subL f ts).map LL.IsT).length = ts.length := by rw [List.length_map, Thg.subL_len]
      have ms : ∀ R ∈ (Thg.subL f ts).map LL.IsT, MonT R := fun R hR => by
        obtain ⟨t, _, rfl⟩ := List.mem_map.mp hR
        exact monT_tv
      refine s_retX (R := HeadT (.str hd0) ((Thg.subL f ts).map LL.IsT)) (x_catH ms (by omega) (x_head (ev_var rfl) ea2) (x_tupOf ms (x_lcU ms (eu_tail (ev_var rfl) (st_of ea2)) (by omega) (by omega) (fun _ => rfl) (fun i x R H3 e3 hx hR => ?_)))) (fun v H3 e3 hv => ?_)
      · obtain ⟨t, ht, hxt⟩ := tvs_get hs hx
        have eR : R = LL.IsT (Thg.sub f t) := by
          rw [subL_map, List.map_map, List.getElem?_map, ht] at hR
          exact (Option.some.inj hR).symm
        subst eR
        have hm := List.mem_of_getElem? ht
        have hdt : dep t ≤ n := by
          have h1 := dep_mem hm
          have h2 : deps ts + 1 ≤ n + 1 := hd
          omega
        have ex3 := e12.trans e3
        exact fun H4 e4 Q4 q4 => ⟨x, rfl, .ref g, rfl, x, g, t, kvs, f, rfl, hxt.mono (TupEx.of (ex3.trans e4)), Thg.WfL.mem wf.2.2 t hm, hdt, Nat.le_trans (pre_mem hm) hp, (ex3.trans e4) _ _ hg, hf.mono (TupEx.of (ex3.trans e4)), fun r H5 e5 h5 => q4 r H5 e5 h5⟩
      · obtain ⟨p, ys, rfl, h1, h2⟩ := hv
        refine k _ H3 (e12.trans e3) ?_
        rw [put_node wf n0]
        exact .node h1 (tvs_all h2) nb
end
end K03
set_option maxHeartbeats 16000000
namespace K03
open PySem PySem.Spec PyProof.Rows L2 Evl LL
theorem dep_pos : ∀ t : Thg, 1 ≤ dep t
  | .num _ => Nat.le_refl _
  | .word _ => Nat.le_refl _
  | .node _ _ => by simp [dep]
section
variable {P : Program} {w : World} {K : PySem.W.Frag} {mg : Str → Option Value} {base : Heap} {f : Addr} {fd : FuncData}
/-- as deep as one likes -/
theorem put_all (F : FnT K "_law_put" (top 22) f fd) (fr : Fr mg) (hi : mg "isinstance" = none) (hm : mg "_law_put" = some (.ref f)) (hk : PySem.W.keepIn K (.ref f) = true) (hb : Binds K fd ["thing", "filling"] []) : ∀ n, FnOk P w K mg base CX0 n f fd ["thing", "filling"] (spPut n)
  | 0 => ⟨fun vs H Q E h => by obtain ⟨_, _, _, _, _, rfl, _⟩ := h; rfl, fun A outer s H args us vs Q E hr he hbb hv h => by
    obtain ⟨v, g, t, kvs, f, rfl, h, wf, hd, _⟩ := h
    have := dep_pos t
    omega⟩
  | n + 1 => ok_put n F ⟨fr, hi, ⟨f, fd, hm, hk, hb, put_all F fr hi hm hk hb n⟩⟩
def spLFilled : Sp := fun vs H Q _ => ∃ b g us ts kvs f, vs = [.ref b, .ref g] ∧ H b = some (.tup us) ∧ Tvs H us ts ∧ Thg.WfL ts ∧ deps ts ≤ 210 ∧ (Thg.preL ts).length ≤ 40000 ∧ H g = some (.dK kvs) ∧ Fv H kvs f ∧ ∀ p us' H', Ex H H' → H' p = some (.tup us') → Tvs H' us' (Thg.subL f ts) → Q (.ref p) H'
structure Fq2 (P : Program) (w : World) (K : PySem.W.Frag) (mg : Str → Option Value) (base : Heap) : Prop extends Fr mg where
  h_law_put : Has P w K mg base CX0 "_law_put" 210 ["thing", "filling"] (spPut 210)
theorem scLFilled : FnScope ["bundle", "filling", "thing"] ["bundle", "filling"] (defScope (top 23)) := ⟨rfl, rfl, rfl, by decide +kernel, rfl, by decide +kernel, by decide +kernel⟩
theorem ok_law_filled (F : FnT K "_law_filled" (top 23) f fd) (T : Fq2 P w K mg base) : FnOk P w K mg base CX0 211 f fd ["bundle", "filling"] spLFilled := by
  have sc := scLFilled
  refine F.ok scLFilled (fun vs H Q E h => ?_) (fun cdv A outer s H vs Q E hr h => ?_)
  · obtain ⟨_, _, _, _, _, _, rfl, _⟩ := h
    rfl
  refine ⟨_, PSs.nox (pss_one (ps_ret (pe_callTy call_tuple_of (by rfl) T.tuple (by decide +kernel) (pa_cons (pe_lc (own := [("thing", 2)]) (tt := tYes) rfl sc.nd (pi_tup (pv 0)) (blkOk_by (N := ["bundle", "filling", "thing"]) (sc := defScope (top 23)) (by decide +kernel)) (fun _ _ _ _ _ => (pg_name (i := 2) sc.nd rfl (Or.inl rfl))) (fun _ _ _ _ _ => pts_nil) (fun _ _ _ _ _ => (pe_callH T.h_law_put hr pass0 (pa_cons (pv 2) (pa_cons (pv 1) pa_nil))))) pa_nil)))), ?_⟩
  obtain ⟨b, g, us, ts, kvs, f, rfl, hb, hs, wf, hd, hz, hg, hf, k⟩ := h
  have hpl := pre_len ts
  have hvl := hs.len
  have hll : ((Thg.subL f ts).map LL.IsT).length = ts.length := by rw [List.length_map, Thg.subL_len]
  have ms : ∀ R ∈ (Thg.subL f ts).map LL.IsT, MonT R := fun R hR => by
    obtain ⟨t, _, rfl⟩ := List.mem_map.mp hR
    exact monT_tv
  refine s_retX (R := TupOf ((Thg.subL f ts).map LL.IsT)) (x_tupOf ms (x_lcT ms (ev_var rfl) (st_of hb) (by omega) (by omega) (fun _ => rfl) (fun i x R H3 e3 hx hR => ?_))) (fun v H3 e3 hv => ?_)
  · obtain ⟨t, ht, hxt⟩ := tvs_get hs hx
    have eR : R = LL.IsT (Thg.sub f t) := by
      rw [subL_map, List.map_map, List.getElem?_map, ht] at hR
      exact (Option.some.inj hR).symm
    subst eR
    have hm := List.mem_of_getElem? ht
    have hdt := dep_mem hm
    exact fun H4 e4 Q4 q4 => ⟨x, rfl, .ref g, rfl, x, g, t, kvs, f, rfl, hxt.mono (TupEx.of (e3.trans e4)), Thg.WfL.mem wf t hm, by omega, Nat.le_trans (pre_mem hm) hz, (e3.trans e4) _ _ hg, hf.mono (TupEx.of (e3.trans e4)), fun r H5 e5 h5 => q4 r H5 e5 h5⟩
  · obtain ⟨p, ys, rfl, h1, h2⟩ := hv
    exact k p ys H3 e3 h1 (tvs_all h2)
end
end K03
set_option maxHeartbeats 4000000
namespace K03
open PySem PySem.Spec PyProof.Rows L2 Evl LL
def likeN : Thg → Thg → Bool
  | .node h xs, .node k ys => decide (h = k) && decide (xs.length = ys.length)
  | _, _ => false
theorem pre_node_le {h : Str} {ts : List Thg} (w : (Thg.node h ts).Wf) : (Thg.preL ts).length ≤ (Thg.node h ts).pre.length := by
  cases hl : Thg.leafy h with
  | true =>
    obtain ⟨n, e⟩ := w.2.1 hl
    rw [Thg.pre_eq, e]
    simp [Thg.preL, Thg.pre]
  | false =>
    have e : (Thg.node h ts).kids = ts := by simp [Thg.kids, hl]
    rw [Thg.pre_eq, e, List.length_cons]
    omega
theorem unk_node {h : Str} {ts : List Thg} (w : (Thg.node h ts).Wf) : Thg.unkL (Thg.node h ts).kids = Thg.unkL ts := by
  cases hl : Thg.leafy h with
  | true =>
    obtain ⟨n, e⟩ := w.2.1 hl
    rw [e]
    simp [Thg.kids, hl, Thg.unkL, Thg.preL, Thg.pre, Thg.unk]
  | false =>
    have e : (Thg.node h ts).kids = ts := by simp [Thg.kids, hl]
    rw [e]
theorem unkP_one {c d : Thg} (ho : c.isO = false) : unkP [(c, d)] = Thg.unkL c.kids := by
  show Thg.unkL [c] = _
  rw [Thg.unkL_one, Thg.unk_closed ho]
  rfl
theorem sub_nodes {f : Int → Option Thg} {h : Str} {xs ys : List Thg} (w : (Thg.node h xs).Wf) (n0 : h ≠ "?") (hl : xs.length = ys.length) : Thg.sub f (.node h xs) = .node h ys ↔ ∀ p ∈ xs.zip ys, Thg.sub f p.1 = p.2 := by
  rw [put_node w n0, ← zip_sub hl]
  exact ⟨fun e => by cases e; rfl, fun e => by rw [e]⟩
section
variable {ts os : List Thg} {S : List (Thg × Thg)} {kvs : List (Key × V)} {f : Int → Option Thg} {H : Hp} {c d : Thg} {n : Int}
theorem Mi.zipN {h : Str} {xs ys : List Thg} (m : Mi ts os (S ++ [(.node h xs, .node h ys)]) kvs f H) (n0 : h ≠ "?") (hl : xs.length = ys.length) : Mi ts os (S ++ xs.zip ys) kvs f H := by
  obtain ⟨wc, wd, zd⟩ := m.wf (.node h xs, .node h ys) (by simp)
  have wc : (Thg.node h xs).Wf := wc
  have wd : (Thg.node h ys).Wf := wd
  have zd : (Thg.node h ys).pre.length ≤ 50000 := zd
  have ho : (Thg.node h xs).isO = false := by simpa [Thg.isO] using n0
  refine ⟨m.fv, m.key, fun G => ?_, fun k => ?_, fun p hp => ?_, m.wg, ?_⟩
  · rw [m.iff_]
    have q := sub_nodes (f := all_ G) wc n0 hl
    constructor
    · intro z
      refine ⟨fun p hp => ?_, z.2⟩
      rcases List.mem_append.mp hp with r | r
      · exact z.1 p (List.mem_append_left _ r)
      · exact q.mp (z.1 (.node h xs, .node h ys) (by simp)) p r
    · intro z
      refine ⟨fun p hp => ?_, z.2⟩
      rcases List.mem_append.mp hp with r | r
      · exact z.1 p (List.mem_append_left _ r)
      · rw [List.mem_singleton.mp r]
        exact q.mpr fun p hp => z.1 p (List.mem_append_right _ hp)
  · rw [m.dom, unkP_app, unkP_app, unkP_zip hl, unkP_one ho, unk_node wc]
  · rcases List.mem_append.mp hp with r | r
    · exact m.wf p (List.mem_append_left _ r)
    · have q := List.of_mem_zip (show (p.1, p.2) ∈ _ from r)
      exact ⟨Thg.WfL.mem wc.2.2 p.1 q.1, Thg.WfL.mem wd.2.2 p.2 q.2, Nat.le_trans (pre_mem q.2) (Nat.le_trans (pre_node_le wd) zd)⟩
  · have := m.sz
    have z := pre_node_le wc
    rw [wtP_snoc] at this
    rw [wtP_app, wtP_zip_eq hl]
    omega
theorem Mi.unlikeN (m : Mi ts os (S ++ [(c, d)]) kvs f H) (ho : c.isO = false) (h : likeN c d = false) (hn : c ≠ d) : ∀ G, Thg.subL (all_ G) ts ≠ os := fun G z => by
  obtain ⟨h1, _⟩ := (m.iff_ G).mp z
  have q : Thg.sub (all_ G) c = d := h1 (c, d) (by simp)
  have wc : c.Wf := (m.wf (c, d) (by simp)).1
  cases c with
  | num i => exact hn q
  | word i => exact hn q
  | node k xs =>
    have n0 : k ≠ "?" := by simpa [Thg.isO] using ho
    rw [put_node wc n0] at q
    subst q
    simp [likeN, Thg.subL_len] at h
theorem Mi.same (m : Mi ts os (S ++ [(c, c)]) kvs f H) (h : likeN c c = false) : Mi ts os S kvs f H := by
  have hs : ∀ f, Thg.sub f c = c := fun f => by
    cases c with
    | num i => rfl
    | word i => rfl
    | node k xs => simp [likeN] at h
  have ho : c.isO = false := by
    cases c with
    | num i => rfl
    | word i => rfl
    | node k xs => simp [likeN] at h
  have hk : c.kids = [] := by
    cases c with
    | num i => rfl
    | word i => rfl
    | node k xs => simp [likeN] at h
  refine ⟨m.fv, m.key, fun G => ?_, fun k => ?_, fun p hp => m.wf p (List.mem_append_left _ hp), m.wg, ?_⟩
  · rw [m.iff_]
    constructor
    · exact fun h => ⟨fun p hp => h.1 p (List.mem_append_left _ hp), h.2⟩
    · intro h
      refine ⟨fun p hp => ?_, h.2⟩
      rcases List.mem_append.mp hp with q | q
      · exact h.1 p q
      · rw [List.mem_singleton.mp q]
        exact hs _
  · rw [m.dom, unkP_app, unkP_one ho, hk]
    simp [Thg.unkL, Thg.preL]
  · have := m.sz
    rw [wtP_snoc] at this
    omega
end
end K03
set_option maxHeartbeats 4000000
/-! Defs by their names, at callers outside of any repr. -/
namespace LL
open PySem PySem.Spec PyProof.Rows L2
def HasG (P : Program) (w : World) (K : PySem.W.Frag) (mg : Str → Option Value) (base : Heap) (CX : CXT) (x : Str) (k : Nat) (ps : List Str) (sp : Sp) : Prop :=
  ∃ f fd, mg x = some (.ref f) ∧ PySem.W.keepIn K (.ref f) = true ∧ Binds K fd ps [] ∧ FnG P w K mg base CX k f fd ps sp
theorem FnG.mono {P : Program} {w : World} {K : PySem.W.Frag} {mg : Str → Option Value} {base : Heap} {CX : CXT} {j k : Nat} {f : Addr} {fd : FuncData} {ps : List Str} {sp : Sp} (F : FnG P w K mg base CX j f fd ps sp) (h : j ≤ k) : FnG P w K mg base CX k f fd ps sp :=
  ⟨F.many, fun hg hr => F.go hg (hr.mono h)⟩
theorem Has.g {P : Program} {w : World} {K : PySem.W.Frag} {mg : Str → Option Value} {base : Heap} {CX : CXT} {x : Str} {k : Nat} {ps : List Str} {sp : Sp} (h : Has P w K mg base CX x k ps sp) : HasG P w K mg base CX x k ps sp := by
  obtain ⟨f, fd, a, b, c, F⟩ := h
  exact ⟨f, fd, a, b, c, FnG.of F⟩
section
variable {X : Cx} {CX : CXT} {x : Str} {j k : Nat} {ps : List Str} {sp : Sp} {E : XK} {p pos : Pos} {e : Expr} {es : List Expr} {ta : TA}
theorem pe_callHG (h : HasG X.prog X.w X.K X.mg X.base CX x k ps sp) (hG : X.A.guards = some []) (hr : Room j X.A) (hx : Passes CX X E) (ha : PA X (e :: es) ta) (hj : k ≤ j := by decide) (hg : Gl X x := by rfl) (hdb : (x == ("__debug__" : Str)) = false := by decide)
    (he : starEach (e :: es) X.env = (false, eval e X.env) :: starEach es X.env := by rfl) (hpl : (backTo pos (starEach es X.env)).any (·.1) = false := by rfl) : PE X (.Call (.Name x p) (e :: es) [] pos) (tCall sp [] E ta) := by
  obtain ⟨f, fd, hm, hk, hb, F⟩ := h
  exact pe_callG F hG (hr.mono hj) hg hm hk hb hx ha hdb he hpl
end
end LL
set_option maxHeartbeats 16000000
namespace K03
open PySem PySem.Spec PyProof.Rows L2 Evl LL
/-- a thing whose text can be told -/
def Gd (t : Thg) : Prop := t.Pl ∧ t.Sm ∧ t.dp ≤ 220 ∧ t.sz ≤ 2400
theorem Pl_mem {t : Thg} : ∀ {ts : List Thg}, Thg.PlL ts → t ∈ ts → t.Pl
  | x :: xs, h, m => by
    rcases List.mem_cons.mp m with e | e
    · rw [e]; exact h.1
    · exact Pl_mem h.2 e
theorem Sm_mem {t : Thg} : ∀ {ts : List Thg}, Thg.SmL ts → t ∈ ts → t.Sm
  | x :: xs, h, m => by
    rcases List.mem_cons.mp m with e | e
    · rw [e]; exact h.1
    · exact Sm_mem h.2 e
theorem dp_mem {t : Thg} : ∀ {ts : List Thg}, t ∈ ts → t.dp ≤ Thg.dpL ts
  | x :: xs, m => by
    simp only [Thg.dpL]
    rcases List.mem_cons.mp m with e | e
    · rw [e]; omega
    · have := dp_mem e; omega
theorem sz_mem {t : Thg} : ∀ {ts : List Thg}, t ∈ ts → t.sz ≤ Thg.szL ts
  | x :: xs, m => by
    simp only [Thg.szL]
    rcases List.mem_cons.mp m with e | e
    · rw [e]; omega
    · have := sz_mem e; omega
theorem Gd.in {h : Str} {xs : List Thg} (g : Gd (.node h xs)) {t : Thg} (ht : t ∈ xs) : Gd t := by
  obtain ⟨a, b, c, d⟩ := g
  have c : Thg.dpL xs + 1 ≤ 220 := c
  have d : Thg.szL xs + 1 ≤ 2400 := d
  have c1 := dp_mem ht
  have d1 := sz_mem ht
  exact ⟨Pl_mem a.2 ht, Sm_mem b.2 ht, by omega, by omega⟩
theorem Gd.nb (t : Thg) : notNB t.dT = true := by cases t <;> rfl
/-- repr of a thing -/
theorem ev_rep {σ : L2.St} {H : Hp} {te : TE} {v : V} {t : Thg} {l : Addr} {o : HO} (hl : H l = some o) (no : ∀ xs, o ≠ .tup xs) (h : Ev te σ H v) (tv : Tv H v t) (g : Gd t) : Ev (tCB rReprD (tCons te tNil)) σ H (.str t.dT.shown) := fun H1 e Q q =>
  h H1 e _ fun H2 e2 => ⟨l, v, t.dT, rfl, (tv.mono (TupEx.of (e.trans e2))).dz (fun xs z => no xs (by rw [(e.trans e2) _ _ hl] at z; exact Option.some.inj z)), Gd.nb t, (Thg.lim g.2.1).sh,
    Nat.le_trans (Thg.lim g.2.1).dp (Nat.le_trans g.2.2.1 (by decide)), Nat.le_trans (Thg.lim g.2.1).ln (sz_of (by have := g.2.2.2; omega)), q H2 e2⟩
theorem rep_yes {a b : Thg} (ga : Gd a) (gb : Gd b) (h : V.str a.dT.shown = V.str b.dT.shown) : a = b := Thg.tx_inj ga.1 gb.1 (V.str.inj h)
theorem Mi.reput {ts os : List Thg} {S : List (Thg × Thg)} {kvs : List (Key × V)} {f : Int → Option Thg} {H : Hp} {d : Thg} {n : Int} {v v0 : V} (m : Mi ts os S kvs f H) (hf : f n = some d) (hk : valV kvs (.inl n) = some v0) (hv : Tv H v d) : Mi ts os S (putK kvs (.inl n) v) f H := by
  have ha : (kvs.any fun kv => decide (kv.1 = (Sum.inl n : Key))) = true := by rw [valV_any, hk]; rfl
  have ep : putK kvs (.inl n) v = kvs.map (fun kv => if kv.1 = Sum.inl n then (kv.1, v) else kv) := by unfold putK; rw [if_pos ha]
  have ek : (putK kvs (.inl n) v).map (·.1) = kvs.map (·.1) := by
    rw [ep, List.map_map]
    refine List.map_congr_left fun p _ => ?_
    show (if p.1 = Sum.inl n then (p.1, v) else p).1 = p.1
    split <;> rfl
  refine ⟨fun k => ?_, ⟨by rw [ek]; exact m.key.1, fun p hp => ?_⟩, m.iff_, m.dom, m.wf, m.wg, by rw [ep, List.length_map]; exact m.sz⟩
  · rw [L2.valV_put]
    by_cases e : k = n
    · subst e
      rw [if_pos rfl]
      exact ⟨fun u hu => ⟨d, hf, by cases hu; exact hv⟩, fun z => nomatch z⟩
    · rw [if_neg (fun z => e (Sum.inl.inj z))]
      exact m.fv k
  · have : p.1 ∈ (putK kvs (.inl n) v).map (·.1) := List.mem_map.mpr ⟨p, hp, rfl⟩
    rw [ek] at this
    obtain ⟨q, hq, e⟩ := List.mem_map.mp this
    rw [← e]
    exact m.key.2 q hq
end K03
set_option maxHeartbeats 16000000
namespace K03
open PySem PySem.Spec PyProof.Rows L2 Evl LL
section
variable {K : PySem.W.Frag} {σ : L2.St} {H : Hp} {x y : V} {c d : Thg}
theorem et_first (h4 : σ[4]? = some (some x)) (hx : Tv H x c) : EvT (tAnd (tB (tCB (rIsi K) (tCons (tVar 4) (tCons (tC (.ty "tuple")) tNil)))) (tTest (tOp rEq (tOp (rIxT K) (tVar 4) (tC (.int 0))) (tC (.str "?"))))) σ H c.isO := by
  cases hx with
  | num n => exact et_is (et_and (a := false) (b := false) (et_B (ev_instTup h4 (.num n))) (fun z => nomatch z)) rfl
  | word n => exact et_is (et_and (a := false) (b := false) (et_B (ev_instTup h4 (.word n))) (fun z => nomatch z)) rfl
  | @node a h vs ts e hs nb =>
    refine et_is (et_and (a := true) (et_B (ev_instTup h4 (.node e hs nb))) (fun _ => et_test (ev_op (ev_op (ev_var h4) ev_c (rv_ixT (st_of e) (atI_nat (j := 0) rfl))) ev_c (rv_eq rfl)))) ?_
    by_cases z : h = "?"
    · subst z
      simp [Thg.isO]
    · rw [decide_eq_false (fun q => z (V.str.inj q))]
      simp [Thg.isO, z]
theorem ev_lenT {i : Nat} {a : Addr} {xs : List V} (hi : σ[i]? = some (some (.ref a))) (h : H a = some (.tup xs)) : Ev (tCB (fun xs H Q => ∃ x n, xs = [x] ∧ LenV K x H n ∧ Q (.int (n : Nat)) H) (tCons (tVar i) tNil)) σ H (.int (xs.length : Nat)) :=
  ev_cb (z := .int (xs.length : Nat)) (ea_cons (ev_var hi) ea_nil) fun H2 e Q q => ⟨_, _, rfl, .inr ⟨_, st_of (e _ _ h), rfl⟩, q H2 (Ex.refl H2)⟩
theorem et_second (h4 : σ[4]? = some (some x)) (h5 : σ[5]? = some (some y)) (hx : Tv H x c) (hy : Tv H y d) : EvT (tAnd (tB (tCB (rIsi K) (tCons (tVar 4) (tCons (tC (.ty "tuple")) tNil)))) (tAnd (tB (tCB (rIsi K) (tCons (tVar 5) (tCons (tC (.ty "tuple")) tNil))))
    (tAnd (tTest (tOp rEq (tOp (rIxT K) (tVar 4) (tC (.int 0))) (tOp (rIxT K) (tVar 5) (tC (.int 0)))))
      (tTest (tOp rEq (tCB (fun xs H Q => ∃ x n, xs = [x] ∧ LenV K x H n ∧ Q (.int (n : Nat)) H) (tCons (tVar 4) tNil)) (tCB (fun xs H Q => ∃ x n, xs = [x] ∧ LenV K x H n ∧ Q (.int (n : Nat)) H) (tCons (tVar 5) tNil))))))) σ H (likeN c d) := by
  cases hx with
  | num n => exact et_is (et_and (a := false) (b := false) (et_B (ev_instTup h4 (.num n))) (fun z => nomatch z)) rfl
  | word n => exact et_is (et_and (a := false) (b := false) (et_B (ev_instTup h4 (.word n))) (fun z => nomatch z)) rfl
  | @node a h vs ts e hs nb =>
    cases hy with
    | num n => exact et_is (et_and (a := true) (et_B (ev_instTup h4 (.node e hs nb))) (fun _ => et_and (a := false) (b := false) (et_B (ev_instTup h5 (.num n))) (fun z => nomatch z))) rfl
    | word n => exact et_is (et_and (a := true) (et_B (ev_instTup h4 (.node e hs nb))) (fun _ => et_and (a := false) (b := false) (et_B (ev_instTup h5 (.word n))) (fun z => nomatch z))) rfl
    | @node a2 h2 vs2 ts2 e2 hs2 nb2 =>
      refine et_is (et_and (a := true) (et_B (ev_instTup h4 (.node e hs nb))) (fun _ => et_and (a := true) (et_B (ev_instTup h5 (.node e2 hs2 nb2))) (fun _ => et_and (et_test (ev_op (ev_op (ev_var h4) ev_c (rv_ixT (st_of e) (atI_nat (j := 0) rfl))) (ev_op (ev_var h5) ev_c (rv_ixT (st_of e2) (atI_nat (j := 0) rfl))) (rv_eq rfl)))
        (fun _ => et_test (ev_op (ev_lenT h4 e) (ev_lenT h5 e2) (rv_eq rfl)))))) ?_
      have l1 := hs.len
      have l2 := hs2.len
      by_cases z : h = h2
      · subst z
        by_cases z2 : ts.length = ts2.length
        · simp [likeN, l1, l2, z2]
        · simp [likeN, l1, l2, z2]
          omega
      · rw [decide_eq_false (fun q => z (V.str.inj q))]
        simp [likeN, z]
end
end K03
set_option maxHeartbeats 16000000
namespace K03
open PySem PySem.Spec PyProof.Rows L2 Evl LL
def spLMat : Sp := fun vs H Q _ => ∃ b o us zs ts os, vs = [.ref b, .ref o] ∧ H b = some (.tup us) ∧ H o = some (.tup zs) ∧ Tvs H us ts ∧ Tvs H zs os ∧ Thg.WfL ts ∧ Thg.WfL os ∧ (∀ t ∈ ts, Gd t) ∧ (∀ t ∈ os, Gd t) ∧ ts.length = os.length ∧ (Thg.preL ts).length ≤ 50000 ∧ (Thg.preL os).length ≤ 50000 ∧
  (∀ H', Ex H H' → (∀ G, Thg.subL (all_ G) ts ≠ os) → Q .non H') ∧
  ∀ g kvs f H', Ex H H' → H' g = some (.dK kvs) → Fv H' kvs f → KeyI kvs → (∀ G, (∀ n t, f n = some t → G n = t) → Thg.subL (all_ G) ts = os) → (∀ n, n ∈ Thg.unkL ts ↔ f n ≠ none) → (∀ n t, f n = some t → t.Wf ∧ Gd t) → Q (.ref g) H'
structure Fl (P : Program) (w : World) (K : PySem.W.Frag) (mg : Str → Option Value) (base : Heap) : Prop extends Fr mg where
  isinstance : mg "isinstance" = none
  repr : mg "repr" = none
  sys : Sys K
def wtS (S : List (Thg × Thg)) : Nat := (S.map fun p => p.1.sz).sum
theorem wtS_snoc (S : List (Thg × Thg)) (c d : Thg) : wtS (S ++ [(c, d)]) = wtS S + c.sz := by
  unfold wtS
  simp
theorem wtS_app (S R : List (Thg × Thg)) : wtS (S ++ R) = wtS S + wtS R := by
  unfold wtS
  simp
theorem sz_pos (c : Thg) : 1 ≤ c.sz := by cases c <;> simp [Thg.sz]
theorem wtS_zip : ∀ (as bs : List Thg), wtS (as.zip bs) ≤ Thg.szL as
  | [], _ => by simp [wtS]
  | a :: as, [] => by simp [wtS]
  | a :: as, b :: bs => by
    have := wtS_zip as bs
    show a.sz + wtS (as.zip bs) ≤ a.sz + Thg.szL as
    omega
section
variable {P : Program} {w : World} {K : PySem.W.Frag} {mg : Str → Option Value} {base : Heap} {f : Addr} {fd : FuncData}
theorem scLMat : FnScope ["bundle", "other", "found", "waiting", "one", "there"] ["bundle", "other"] (defScope (top 24)) := ⟨rfl, rfl, rfl, by decide +kernel, rfl, by decide +kernel, by decide +kernel⟩
theorem ok_law_matched (F : FnT K "_law_matched" (top 24) f fd) (T : Fl P w K mg base) : FnG P w K mg base CX0 5 f fd ["bundle", "other"] spLMat := by
  have sc := scLMat
  refine fnG_of F scLMat (fun {vs H Q E} h => ?_) (fun cdv A outer s H vs Q E hg hr h => ?_)
  · obtain ⟨_, _, _, _, _, _, rfl, _⟩ := h
    rfl
  have hG := guards_deeper (env := envOfC "_law_matched" (defScope (top 24)) s.heap.objs.size f cdv) hg
  have hu := hr.un
  have hu : (A.deeper (envOfC "_law_matched" (defScope (top 24)) s.heap.objs.size f cdv)).units + 252 < cLine := by omega
  refine ⟨_, PSs.nox (pss_cons (ps_par (i := 2) (j := 3) (by rfl) sc.nd rfl rfl (by decide) rfl rfl (pa_cons pe_dnewK (pa_cons (pe_listZip rfl (by rfl) T.list (by rfl) T.zip (pa_cons (pv 0) (pa_cons (pv 1) pa_nil))) pa_nil)) (by rfl))
      (pss_cons (ps_while PassesOwn.never (pt_cmpR op_gt (pe_callB call_len (by rfl) T.len (by decide +kernel) (pa_cons (pv 3) pa_nil)) pe_int (nomark _)) (pss_cons (ps_asg (pe_bm0 PySem.F.plainAttrs_list PySem.F.slot_list_pop PySem.F.type_list_pop mt_pop (pv 3)) (pg_tup rfl (pgs_cons (pg_name (i := 4) sc.nd rfl (Or.inl rfl)) (pgs_cons (pg_name (i := 5) sc.nd rfl (Or.inl rfl)) pgs_nil))))
      (pss_one (ps_if (PW.pt (pw_and (pt_val (pe_callB call_isi (by rfl) T.isinstance (by decide +kernel) (pa_cons (pv 4) (pa_cons (pe_bltn (v := .ty "tuple") (u := .type "tuple") (by rfl) T.tuple (by decide +kernel) rfl) pa_nil)))) (pw_and1 (pt_cmpR op_eq (pe_ix ix_tup (pv 4) pe_int (fun _ _ => rfl)) pe_str (nomark _))))) (pss_cons (ps_if (pt_cmpR op_ne (pe_callB (call_reprD T.sys hG hu) (by rfl) T.repr (by decide +kernel) (pa_cons (pe_dget2 (Nat.lt_of_le_of_lt (Nat.add_le_add_left (by decide : 1 ≤ 64) _) hr.units) (pv 2) (pe_ix ix_tup (pv 4) pe_int (fun _ _ => rfl)) (pv 5) M2.ok) pa_nil)) (pe_callB (call_reprD T.sys hG hu) (by rfl) T.repr (by decide +kernel) (pa_cons (pv 5) pa_nil)) (nomark _)) (pss_one (ps_ret pe_non)) pss_nil)
      (pss_one (ps_asg (pv 5) (pg_sub (pv 2) (pe_ix ix_tup (pv 4) pe_int (fun _ _ => rfl)) (set_dict (Nat.lt_of_le_of_lt (Nat.add_le_add_left (by decide : 1 ≤ 64) _) hr.units)))))) (pss_one (ps_if (PW.pt (pw_and (pt_val (pe_callB call_isi (by rfl) T.isinstance (by decide +kernel) (pa_cons (pv 4) (pa_cons (pe_bltn (v := .ty "tuple") (u := .type "tuple") (by rfl) T.tuple (by decide +kernel) rfl) pa_nil)))) (pw_and (pt_val (pe_callB call_isi (by rfl) T.isinstance (by decide +kernel) (pa_cons (pv 5) (pa_cons (pe_bltn (v := .ty "tuple") (u := .type "tuple") (by rfl) T.tuple (by decide +kernel) rfl) pa_nil)))) (pw_and (pt_cmpR op_eq (pe_ix ix_tup (pv 4) pe_int (fun _ _ => rfl)) (pe_ix ix_tup (pv 5) pe_int (fun _ _ => rfl)) (nomark _)) (pw_and1 (pt_cmpR op_eq (pe_callB call_len (by rfl) T.len (by decide +kernel) (pa_cons (pv 4) pa_nil)) (pe_callB call_len (by rfl) T.len (by decide +kernel) (pa_cons (pv 5) pa_nil)) (nomark _))))))) (pss_one (ps_expr (pe_bm PySem.F.plainAttrs_list PySem.F.slot_list_extend PySem.F.type_list_extend mt_extend (pv 3) (pa_cons (pe_listZip rfl (by rfl) T.list (by rfl) T.zip (pa_cons (pe_slice sl_tup (pv 4) (po_some pe_int) po_none) (pa_cons (pe_slice sl_tup (pv 5) (po_some pe_int) po_none) pa_nil))) pa_nil)))) (pss_one (ps_if (pt_cmpR op_ne (pe_callB (call_reprD T.sys hG hu) (by rfl) T.repr (by decide +kernel) (pa_cons (pv 4) pa_nil)) (pe_callB (call_reprD T.sys hG hu) (by rfl) T.repr (by decide +kernel) (pa_cons (pv 5) pa_nil)) (nomark _)) (pss_one (ps_ret pe_non)) pss_nil))))))))
      (pss_one (ps_ret (pv 2))))), ?_⟩
  obtain ⟨b, o, us, zs, ts, os, rfl, hb, ho, tu, tz, wt, wo, gt, go, hl, z1, z2, kN, kS⟩ := h
  refine fun g hg => ?_
  have e1 := Ex.new (o := .dK []) hg
  refine ⟨_, rfl, _, rfl, b, o, us, zs, rfl, st_of (e1 _ _ hb), st_of (e1 _ _ ho), fun td Ts H2 htd e2 h2 l2 a2 => ⟨_, _, rfl, ?_⟩⟩
  have ntd : H td = none := fresh_back e1 htd
  have gtd : g ≠ td := fun e => by
    rw [← e, upd_same] at htd
    cases htd
  have gz : ∀ p ∈ ts.zip os, Gd p.1 ∧ Gd p.2 := fun p hp => ⟨gt p.1 (List.of_mem_zip (show (p.1, p.2) ∈ _ from hp)).1, go p.2 (List.of_mem_zip (show (p.1, p.2) ∈ _ from hp)).2⟩
  refine q_while (fun m σ' H' => ∃ qs S kvs f x4 x5, σ' = [some (.ref b), some (.ref o), some (.ref g), some (.ref td), x4, x5] ∧ H' td = some (.lst qs) ∧ H' g = some (.dK kvs) ∧ Ex H H' ∧ Prs H' qs S ∧ Mi ts os S kvs f H' ∧ (∀ p ∈ S, Gd p.1 ∧ Gd p.2) ∧ (∀ n t, f n = some t → Gd t) ∧ m = wtS S) (wtS (ts.zip os)) ?_ ?_
  · exact ⟨_, ts.zip os, [], fun _ => none, _, _, rfl, h2, e2 _ _ upd_same, e1.trans e2, Prs.zip (tu.mono (TupEx.of (e1.trans e2))) (tz.mono (TupEx.of (e1.trans e2))) l2 a2, Mi.start wt wo hl z1 z2, gz, (fun _ _ z => nomatch z), rfl⟩
  · rintro m σ' H' ⟨qs, S, kvs, f, x4, x5, rfl, hq, hG, ex, hp, mi, gs, gf, rfl⟩
    refine ⟨decide ((0 : Int) < (qs.length : Nat)), et_test (ev_op (ev_cb (z := .int (qs.length : Nat)) (ea_cons (ev_var rfl) ea_nil) fun H2 e Q q => ⟨_, _, rfl, .inl ⟨_, sq_of (e _ _ hq), rfl⟩, q H2 (Ex.refl H2)⟩) ev_c rv_I0), fun hb2 H3 e4 => ?_, fun hb2 H3 e4 => ?_⟩
    · rcases List.eq_nil_or_concat S with rfl | ⟨S0, ⟨c, d⟩, rfl⟩
      · cases hp
        simp at hb2
      · rw [List.concat_eq_append] at hp mi gs ⊢
        refine ⟨fun σ2 H2 => ∃ m', m' < wtS (S0 ++ [(c, d)]) ∧ ∃ qs S kvs f x4 x5, σ2 = [some (.ref b), some (.ref o), some (.ref g), some (.ref td), x4, x5] ∧ H2 td = some (.lst qs) ∧ H2 g = some (.dK kvs) ∧ Ex H H2 ∧ Prs H2 qs S ∧ Mi ts os S kvs f H2 ∧ (∀ p ∈ S, Gd p.1 ∧ Gd p.2) ∧ (∀ n t, f n = some t → Gd t) ∧ m' = wtS S, fun σ2 H3 z => z, ?_⟩
        obtain ⟨q1, q2, rfl, p1, p2⟩ := hp.split
        cases p2 with
        | @cons T1 x y _ _ _ _ eT hx hy p3 =>
          cases p3
          obtain ⟨wc, wd, zd⟩ := mi.wf (c, d) (by simp)
          have wc : c.Wf := wc
          have wd : d.Wf := wd
          have gcd := gs (c, d) (by simp)
          have gc : Gd c := gcd.1
          have gd : Gd d := gcd.2
          have gs0 : ∀ p ∈ S0, Gd p.1 ∧ Gd p.2 := fun p hp => gs p (List.mem_append_left _ hp)
          have hq2 := e4 _ _ hq
          have Ttd : T1 ≠ td := fun z => by
            rw [z, hq] at eT
            cases eT
          refine ⟨_, rfl, .inl ⟨rfl, _, sq_of hq2⟩, td, q1 ++ [.ref T1], .ref T1, rfl, rfl, hq2, snoc_last q1 _, ?_⟩
          rw [List.dropLast_concat]
          refine ⟨T1, [x, y], rfl, st_of (by rw [upd_ne Ttd]; exact e4 _ _ eT), rfl, _, _, rfl, _, _, rfl, rfl, ?_⟩
          have t4 : TupEx H' (upd H3 td (.lst q1)) := (TupEx.of e4).trans (TupEx.lst hq2)
          have ex4 : Ex H (upd H3 td (.lst q1)) := (ex.trans e4).mut ntd
          have hq4 : upd H3 td (.lst q1) td = some (.lst q1) := upd_same
          have hG4 : upd H3 td (.lst q1) g = some (.dK kvs) := by rw [upd_ne gtd]; exact e4 _ _ hG
          have p14 := p1.mono t4
          have hx4 := hx.mono t4
          have hy4 := hy.mono t4
          have mi4 := mi.mono t4
          revert t4 ex4 hq4 hG4 p14 hx4 hy4 mi4
          generalize upd H3 td (.lst q1) = H4
          intro t4 ex4 hq4 hG4 p14 hx4 hy4 mi4
          dsimp only
          have szm := mi4.sz
          have wsn : wtS (S0 ++ [(c, d)]) = wtS S0 + c.sz := wtS_snoc _ _ _
          have cz := sz_pos c
          refine s_if (b := c.isO) (et_first rfl hx4) (fun hb3 H5 e5 => ?_) (fun hb3 H5 e5 => ?_)
          · cases c with
            | num _ => cases hb3
            | word _ => cases hb3
            | node h xs =>
              have h0 : h = "?" := by simpa [Thg.isO] using hb3
              subst h0
              obtain ⟨n, rfl⟩ := wc.okO rfl
              have hx5 := hx4.mono (TupEx.of e5)
              cases hx5 with
              | @node a _ vs _ ea hxs =>
                cases hxs with
                | cons hm h5 =>
                  cases h5
                  cases hm
                  have hG5 := e5 _ _ hG4
                  have hq5 := e5 _ _ hq4
                  have mi5 := mi4.mono (TupEx.of e5)
                  have hy5 := hy4.mono (TupEx.of e5)
                  have p15 := p14.mono (TupEx.of e5)
                  have ex5 := ex4.trans e5
                  have gsz : kvs.length ≤ 50000 := by omega
                  have fin : ∀ (H6 : Hp) (f' : Int → Option Thg), Ex H5 H6 → Mi ts os S0 (putK kvs (.inl n) y) f' H6 → (∀ n t, f' n = some t → Gd t) → ∃ m', m' < wtS (S0 ++ [(.node "?" [.num n], d)]) ∧ ∃ qs S kvs' f x4 x5, ([some (.ref b), some (.ref o), some (.ref g), some (.ref td), some (.ref a), some y] : L2.St) = [some (.ref b), some (.ref o), some (.ref g), some (.ref td), x4, x5] ∧ (upd H6 g (.dK (putK kvs (.inl n) y))) td = some (.lst qs) ∧ (upd H6 g (.dK (putK kvs (.inl n) y))) g = some (.dK kvs') ∧ Ex H (upd H6 g (.dK (putK kvs (.inl n) y))) ∧ Prs (upd H6 g (.dK (putK kvs (.inl n) y))) qs S ∧ Mi ts os S kvs' f (upd H6 g (.dK (putK kvs (.inl n) y))) ∧ (∀ p ∈ S, Gd p.1 ∧ Gd p.2) ∧ (∀ n t, f n = some t → Gd t) ∧ m' = wtS S := fun H6 f' e6 m6 g6 => by
                    have t6 : TupEx H6 (upd H6 g (.dK (putK kvs (.inl n) y))) := fun a ys e => by
                      rw [upd_ne (fun z => by rw [z, e6 _ _ hG5] at e; cases e)]
                      exact e
                    exact ⟨wtS S0, by omega, q1, S0, putK kvs (.inl n) y, f', _, _, rfl, by rw [upd_ne (Ne.symm gtd)]; exact e6 _ _ hq5, upd_same, (ex5.trans e6).mut hg, (p15.mono (TupEx.of e6)).mono t6, m6.mono t6, gs0, g6, rfl⟩
                  have evg : ∀ {K' : PySem.W.Frag}, Ev (tDGet2 (tVar 2) (tOp (rIxT K') (tVar 4) (tC (.int 1))) (tVar 5)) [some (.ref b), some (.ref o), some (.ref g), some (.ref td), some (.ref a), some y] H5 ((valV kvs (.inl n)).getD y) := fun H6 e6 Q6 q6 => ⟨_, rfl, g, rfl, .inl ⟨kvs, .inl (e6 _ _ hG5)⟩, _, rfl, a, _, 1, .int n, rfl, rfl, st_of (e6 _ _ ea), atI_nat (j := 1) rfl, _, rfl, valV kvs (.inl n), DGet.k (k := .inl n) (e6 _ _ hG5), q6 H6 (Ex.refl H6)⟩
                  cases hvv : valV kvs (.inl n) with
                  | none =>
                    rw [hvv] at evg
                    have hf : f n = none := (mi5.fv n).2 hvv
                    refine q_when (b := !decide (V.str d.dT.shown = V.str d.dT.shown)) (et_test (ev_op (ev_rep hG5 (fun _ z => nomatch z) evg hy5 gd) (ev_rep hG5 (fun _ z => nomatch z) (ev_var rfl) hy5 gd) (rv_ne rfl))) (fun hb5 => by simp at hb5) (fun hb5 H6 e6 => ?_)
                    refine ⟨_, rfl, _, rfl, _, rfl, a, _, 1, .int n, rfl, rfl, st_of (e6 _ _ ea), atI_nat (j := 1) rfl, g, _, rfl, DPut.k (k := .inl n) (e6 _ _ hG5) (sz_lt (by omega)), ?_⟩
                    exact fin H6 _ e6 ((mi5.mono (TupEx.of e6)).put hf hvv (hy5.mono (TupEx.of e6))) (fun k t h => by
                      by_cases e : k = n
                      · rw [if_pos e] at h
                        cases h
                        exact gd
                      · rw [if_neg e] at h
                        exact gf k t h)
                  | some v0 =>
                    rw [hvv] at evg
                    obtain ⟨t0, f1, f2⟩ := (mi5.fv n).1 v0 hvv
                    obtain ⟨m1, m2⟩ := mi5.known f1
                    refine q_when (b := !decide (V.str t0.dT.shown = V.str d.dT.shown)) (et_test (ev_op (ev_rep hG5 (fun _ z => nomatch z) evg f2 (gf n t0 f1)) (ev_rep hG5 (fun _ z => nomatch z) (ev_var rfl) hy5 gd) (rv_ne rfl))) (fun hb5 H6 e6 => ?_) (fun hb5 H6 e6 => ?_)
                    · exact s_ret ev_c fun H7 e7 => kN H7 ((ex5.trans e6).trans e7) (m2 fun z => by rw [z] at hb5; simp at hb5)
                    · have td0 : t0 = d := rep_yes (gf n t0 f1) gd (by simpa using hb5)
                      refine ⟨_, rfl, _, rfl, _, rfl, a, _, 1, .int n, rfl, rfl, st_of (e6 _ _ ea), atI_nat (j := 1) rfl, g, _, rfl, DPut.k (k := .inl n) (e6 _ _ hG5) (sz_lt (by omega)), ?_⟩
                      rw [td0] at f1
                      exact fin H6 f e6 (((m1 td0).mono (TupEx.of e6)).reput f1 hvv (hy5.mono (TupEx.of e6))) gf
          · refine s_if (b := likeN c d) (et_second rfl rfl (hx4.mono (TupEx.of e5)) (hy4.mono (TupEx.of e5))) (fun hb4 H6 e6 => ?_) (fun hb4 H6 e6 => ?_)
            · cases c with
              | num _ => simp [likeN] at hb4
              | word _ => simp [likeN] at hb4
              | node h xs =>
                cases d with
                | num _ => simp [likeN] at hb4
                | word _ => simp [likeN] at hb4
                | node k ys =>
                  obtain ⟨hk, hlen⟩ : h = k ∧ xs.length = ys.length := by simpa [likeN] using hb4
                  subst hk
                  have n0 : h ≠ "?" := by simpa [Thg.isO] using hb3
                  have e56 := e5.trans e6
                  have hq6 := e56 _ _ hq4
                  have md := mi4.zipN n0 hlen
                  have szd := md.sz
                  cases hx4 with
                  | @node a1 _ vs1 _ ea1 hs1 =>
                    cases hy4 with
                    | @node a2' _ vs2 _ ea2 hs2 =>
                      have wz := wtS_zip xs ys
                      have wn : wtS (S0 ++ xs.zip ys) = wtS S0 + wtS (xs.zip ys) := wtS_app _ _
                      have cn : (Thg.node h xs).sz = Thg.szL xs + 1 := rfl
                      refine ⟨_, rfl, .inl ⟨rfl, _, sq_of hq6⟩, ?_⟩
                      refine eu_tail (ev_var rfl) (st_of (e56 _ _ ea1)) H6 (Ex.refl H6) _ fun z1 H7 hz1 e7 h7 => ?_
                      refine eu_tail (ev_var rfl) (st_of (e7 _ _ (e56 _ _ ea2))) H7 (Ex.refl H7) _ fun z2 H8 hz2 e8 h8 => ?_
                      refine ⟨z1, z2, _, _, rfl, st_of (e8 _ _ h7), st_of h8, fun zp Ts H9 hz9 e9 h9 l9 a9 => ?_⟩
                      have e79 := (e7.trans e8).trans e9
                      have e49 := e56.trans e79
                      have pz := Prs.zip (hs1.mono (TupEx.of e49)) (hs2.mono (TupEx.of e49)) l9 a9
                      have hq9 := e79 _ _ hq6
                      have lp1 := p1.len
                      have lp2 := wtP_len S0
                      have lpz := pz.len
                      have lpz2 := wtP_len (xs.zip ys)
                      have wpn : wtP (S0 ++ xs.zip ys) = wtP S0 + wtP (xs.zip ys) := wtP_app _ _
                      have t10 : TupEx H9 (upd H9 td (.lst (q1 ++ Ts.map V.ref))) := TupEx.lst hq9
                      refine ⟨td, zp, q1, Ts.map V.ref, rfl, rfl, hq9, h9, sz_of (by omega), ?_⟩
                      refine ⟨wtS (S0 ++ xs.zip ys), by omega, _, S0 ++ xs.zip ys, kvs, f, _, _, rfl, upd_same, ?_, (ex4.trans e49).mut ntd, Prs.app (pz.mono t10) ((p14.mono (TupEx.of e49)).mono t10), (md.mono (TupEx.of e49)).mono t10, fun p hp => ?_, gf, rfl⟩
                      · rw [upd_ne gtd]
                        exact e49 _ _ hG4
                      · rcases List.mem_append.mp hp with r | r
                        · exact gs0 p r
                        · have q := List.of_mem_zip (show (p.1, p.2) ∈ _ from r)
                          exact ⟨gc.in q.1, gd.in q.2⟩
            · have e56 := e5.trans e6
              have hG6 := e56 _ _ hG4
              have mi6 := mi4.mono (TupEx.of e56)
              refine s_if (b := !decide (V.str c.dT.shown = V.str d.dT.shown)) (et_test (ev_op (ev_rep hG6 (fun _ z => nomatch z) (ev_var rfl) (hx4.mono (TupEx.of e56)) gc) (ev_rep hG6 (fun _ z => nomatch z) (ev_var rfl) (hy4.mono (TupEx.of e56)) gd) (rv_ne rfl))) (fun hb5 H7 e7 => ?_) (fun hb5 H7 e7 => ?_)
              · exact s_ret ev_c fun H8 e8 => kN H8 (((ex4.trans e56).trans e7).trans e8) (mi6.unlikeN hb3 hb4 fun z => by rw [z] at hb5; simp at hb5)
              · have ecd : c = d := rep_yes gc gd (by simpa using hb5)
                rw [← ecd] at mi6 hb4
                exact ⟨wtS S0, by omega, q1, S0, kvs, f, _, _, rfl, e7 _ _ (e56 _ _ hq4), e7 _ _ hG6, (ex4.trans e56).trans e7, (p14.mono (TupEx.of e56)).mono (TupEx.of e7), (mi6.same hb4).mono (TupEx.of e7), gs0, gf, rfl⟩
    · have e0 : qs = [] := by
        cases qs with
        | nil => rfl
        | cons _ _ => simp at hb2
      subst e0
      cases hp
      have mi3 := mi.mono (TupEx.of e4)
      refine s_ret (ev_var rfl) fun H5 e5 => kS g kvs f H5 ((ex.trans e4).trans e5) (e5 _ _ (e4 _ _ hG)) (mi3.mono (TupEx.of e5)).fv mi3.key (fun G h => (mi3.iff_ G).mpr ⟨nofun, h⟩) (fun n => ?_) fun n t h => ⟨(mi3.wg n t h).1, gf n t h⟩
      rw [mi3.dom]
      simp [unkP, Thg.unkL, Thg.preL]
end
end K03
set_option maxHeartbeats 4000000
/-! A comprehension over a new list that is itself told by a relation. -/
namespace LL
open PySem PySem.Spec PyProof.Rows L2 Evl
variable {K : PySem.W.Frag} {σ : L2.St} {H : Hp} {te tl : TE} {j : Nat} {vs : List Nat}
theorem x_lcN {C : List V → Prop} {Rf : List V → List VP} (m : ∀ xs, C xs → ∀ R ∈ Rf xs, MonT R) (h : EvX tl σ H (fun v H => ∃ a xs, v = .ref a ∧ H a = some (.lst xs) ∧ C xs)) (hl : ∀ xs, C xs → (Rf xs).length = xs.length) (hz : ∀ xs, C xs → xs.length ≤ 40000)
    (hw : ∀ x, wipe ((wipe σ vs).set j (some x)) vs = wipe σ vs)
    (he : ∀ xs, C xs → ∀ (i : Nat) (x : V) (R : VP) H1, Ex H H1 → xs[i]? = some x → (Rf xs)[i]? = some R → EvX te ((wipe σ vs).set j (some x)) H1 R) : EvX (tLc (iList K tl) (gName j) tYes te vs) σ H (fun v H => ∃ xs, C xs ∧ LstOf (Rf xs) v H) := fun H0 e Q q => h H0 e _ fun v H1 e1 hv => by
  obtain ⟨a, xs, rfl, hx, hC⟩ := hv
  have hl := hl xs hC
  have hz := hz xs hC
  have m := m xs hC
  exact ⟨a, rfl, ⟨xs, sq_of hx⟩, fun Dl hD =>
    lc_it (walk_list (xs := xs)) (Cx_ H1 (Rf xs) Dl) ⟨hD, Ex.new hD, [], upd_same, .nil⟩ (fun i H' _ pv => sq_of (pv.2.1 _ _ hx)) (fun i x H' H'' hi pv y => by
      obtain ⟨rfl, hi2⟩ := y
      have hr : (Rf xs)[i]? = some (Rf xs)[i] := List.getElem?_eq_getElem (by omega)
      exact ⟨hw x, cx_turn m pv (by omega) hr (he xs hC i x _ H1 (e.trans e1) hi2 hr)⟩) (fun H' pv => by
      obtain ⟨p1, p2, ys, p3, p4⟩ := pv
      rw [← hl, List.take_length] at p4
      exact q _ H' (e1.trans p2) ⟨xs, hC, Dl, ys, rfl, p3, p4⟩)⟩
end LL
set_option maxHeartbeats 16000000
namespace K03
open PySem PySem.Spec PyProof.Rows L2 Evl LL
def pairD (f : Int → Option Thg) (n : Int) : PyData := .tuple [.int n, ((f n).getD (.num 0)).dT]
/-- the text of a filling: its numbers in order, what stands for each -/
def shF (f : Int → Option Thg) (ns : List Int) : Str := (PyData.list (ns.map (pairD f))).shown
def Numbers (f : Int → Option Thg) (ns : List Int) : Prop := ns.Nodup ∧ ns.Pairwise (· ≤ ·) ∧ ∀ n, n ∈ ns ↔ f n ≠ none
/-- a dict that keeps a filling -/
structure Keeps (H : Hp) (g : Addr) (kvs : List (Key × V)) (f : Int → Option Thg) : Prop where
  at_ : H g = some (.dK kvs)
  fv : Fv H kvs f
  key : KeyI kvs
  sz : ∃ N Z : Nat, kvs.length ≤ N ∧ N ≤ 1000 ∧ N * (40 * Z + 80) ≤ 16000000 ∧ ∀ n t, f n = some t → t.sz ≤ Z
  small : ∀ p ∈ kvs, ∀ n, p.1 = Sum.inl n → n.natAbs < 10 ^ 30
  gd : ∀ n t, f n = some t → Gd t
theorem Keeps.mono {H H' : Hp} {g : Addr} {kvs : List (Key × V)} {f : Int → Option Thg} (e : Ex H H') (h : Keeps H g kvs f) : Keeps H' g kvs f := ⟨e _ _ h.at_, h.fv.mono (TupEx.of e), h.key, h.sz, h.small, h.gd⟩
theorem nums_of : ∀ {kvs : List (Key × V)}, (∀ p ∈ kvs, ∃ n, p.1 = Sum.inl n) → ∃ ns : List Int, kvs.map (·.1) = ns.map Sum.inl
  | [], _ => ⟨[], rfl⟩
  | p :: kvs, h => by
    obtain ⟨n, e⟩ := h p List.mem_cons_self
    obtain ⟨ns, es⟩ := nums_of (kvs := kvs) fun q hq => h q (List.mem_cons_of_mem _ hq)
    exact ⟨n :: ns, by rw [List.map_cons, List.map_cons, e, es]⟩
theorem mem_key {kvs : List (Key × V)} {ns : List Int} {n : Int} (e : kvs.map (·.1) = ns.map Sum.inl) : n ∈ ns ↔ ∃ v, valV kvs (.inl n) = some v := by
  constructor
  · intro h
    have : (Sum.inl n : Key) ∈ kvs.map (·.1) := by rw [e]; exact List.mem_map.mpr ⟨n, h, rfl⟩
    cases hv : valV kvs (.inl n) with
    | some v => exact ⟨v, rfl⟩
    | none => exact absurd this (valV_none hv)
  · rintro ⟨v, hv⟩
    by_cases h : n ∈ ns
    · exact h
    · exfalso
      have q : (Sum.inl n : Key) ∉ kvs.map (·.1) := by
        rw [e]
        intro z
        obtain ⟨m, hm, em⟩ := List.mem_map.mp z
        cases em
        exact h hm
      unfold valV at hv
      obtain ⟨p, hp, _⟩ := Option.map_eq_some_iff.mp hv
      have p1 := List.find?_some hp
      exact q (List.mem_map.mpr ⟨p, List.mem_of_find?_eq_some hp, of_decide_eq_true p1⟩)
theorem sort_one {ns ms : List Int} (h1 : ns.Nodup) (h2 : ms.Nodup) (k1 : ns.Pairwise (· ≤ ·)) (k2 : ms.Pairwise (· ≤ ·)) (h : ∀ n, n ∈ ns ↔ n ∈ ms) : ns = ms := by
  have p : ns.Perm ms := (List.perm_ext_iff_of_nodup h1 h2).mpr h
  exact p.eq_of_pairwise (fun a b _ _ x y => Int.le_antisymm x y) k1 k2
theorem TupOf.monT {Rs : List VP} (m : ∀ R ∈ Rs, MonT R) : MonT (TupOf Rs) := fun v H H' e ⟨p, vs, h1, h2, h3⟩ => ⟨p, vs, h1, e _ _ h2, h3.monT m e⟩
def PairR (f : Int → Option Thg) (x : V) : VP := fun v H => ∃ n t, x = .int n ∧ f n = some t ∧ TupOf [fun v _ => v = .int n, LL.IsT t] v H
theorem two_mem {R S : VP} {p : VP → Prop} (h1 : p R) (h2 : p S) : ∀ T ∈ [R, S], p T := fun T hT => by
  rcases List.mem_cons.mp hT with e | e
  · rw [e]; exact h1
  · rw [List.mem_singleton.mp e]; exact h2
theorem PairR.monT {f : Int → Option Thg} {x : V} : MonT (PairR f x) := fun v H H' e ⟨n, t, h1, h2, h3⟩ => ⟨n, t, h1, h2, TupOf.monT (two_mem (p := MonT) (fun _ _ _ _ h => h) monT_tv) v H H' e h3⟩
theorem dzs_pairs {f : Int → Option Thg} {l : Addr} {H : Hp} (hl : ∀ xs, H l ≠ some (.tup xs)) : ∀ {ns : List Int} {ys : List V}, All2 ((ns.map V.int).map (PairR f)) ys H → Dzs l H ys (ns.map (pairD f))
  | [], _, .nil => .nil
  | n :: ns, _, .cons (b := y) h hs => by
    refine .cons ?_ (dzs_pairs hl hs)
    obtain ⟨m, t, e1, e2, p, vs, rfl, e4, e5⟩ := h
    cases e1
    cases e5 with
    | cons h1 h6 =>
      cases h6 with
      | cons h2 h7 =>
        cases h7
        have h1 := h1
        subst h1
        have e : pairD f n = .tuple [.int n, t.dT] := by
          unfold pairD
          rw [e2]
          rfl
        rw [e]
        exact .tup (fun z => hl _ (by rw [← z]; exact e4)) e4 (.cons (.int n) (.cons (Tv.dz hl h2) .nil))
theorem cb_x {r : List V → Hp → VK → Prop} {te : TE} {σ : L2.St} {H H1 : Hp} {R : VP} {Q : VK} (h : EvX te σ H R) (e : Ex H H1) (k : ∀ v H2, Ex H1 H2 → R v H2 → r [v] H2 Q) : tCB r (tCons te tNil) σ H1 Q := h H1 e _ k
theorem x_if' {σ : L2.St} {H : Hp} {ta tb : TE} {t : TT} {R : VP} {b : Bool} (h : EvT t σ H b) (h1 : b = true → EvX ta σ H R) (h2 : b = false → EvX tb σ H R) : EvX (tIf t ta tb) σ H R := fun H1 e Q q => h H1 e _ fun H2 e2 => by
  cases b with
  | true =>
    show ta σ H2 Q
    exact h1 rfl H2 (e.trans e2) Q fun v H3 e3 => q v H3 (e2.trans e3)
  | false =>
    show tb σ H2 Q
    exact h2 rfl H2 (e.trans e2) Q fun v H3 e3 => q v H3 (e2.trans e3)
def spShown : Sp := fun vs H Q _ => (vs = [.non] ∧ ∀ H', Ex H H' → Q (.str "None") H') ∨ ∃ g kvs f, vs = [.ref g] ∧ Keeps H g kvs f ∧ ∀ ns H', Ex H H' → Numbers f ns → Q (.str (shF f ns)) H'
section
variable {P : Program} {w : World} {K : PySem.W.Frag} {mg : Str → Option Value} {base : Heap} {f : Addr} {fd : FuncData}
structure Fsh (P : Program) (w : World) (K : PySem.W.Frag) (mg : Str → Option Value) (base : Heap) : Prop where
  repr : mg "repr" = none
  sorted : mg "sorted" = none
  sys : Sys K
theorem scShown : FnScope ["filling", "number"] ["filling"] (defScope (top 25)) := ⟨rfl, rfl, rfl, by decide +kernel, rfl, by decide +kernel, by decide +kernel⟩
theorem ok_law_shown (F : FnT K "_law_shown" (top 25) f fd) (T : Fsh P w K mg base) : FnG P w K mg base CX0 5 f fd ["filling"] spShown := by
  have sc := scShown
  refine fnG_of F scShown (fun {vs H Q E} h => ?_) (fun cdv A outer s H vs Q E hg hr h => ?_)
  · obtain ⟨rfl, _⟩ | ⟨_, _, _, rfl, _⟩ := h <;> rfl
  have hG := guards_deeper (env := envOfC "_law_shown" (defScope (top 25)) s.heap.objs.size f cdv) hg
  have hu := hr.un
  have hu : (A.deeper (envOfC "_law_shown" (defScope (top 25)) s.heap.objs.size f cdv)).units + 252 < cLine := by omega
  refine ⟨_, PSs.nox (pss_one (ps_ret (pe_ifExp (pt_cmpR op_isN (pv 0) pe_non (nomark _)) pe_str (pe_callB (call_reprD T.sys hG hu) (by rfl) T.repr (by decide +kernel) (pa_cons (pe_lc (own := [("number", 1)]) (tt := tYes) rfl sc.nd (pi_list (pe_callB (cr_sortedD rfl) (by rfl) T.sorted (by decide +kernel) (pa_cons (pv 0) pa_nil))) (blkOk_by (N := ["filling", "number"]) (sc := defScope (top 25)) (by decide +kernel)) (fun _ _ _ _ _ => (pg_name (i := 1) sc.nd rfl (Or.inl rfl))) (fun _ _ _ _ _ => pts_nil) (fun _ _ _ _ _ => (pe_tup (pa_cons (pv 1) (pa_cons (pe_dget (Nat.lt_of_le_of_lt (Nat.add_le_add_left (by decide : 1 ≤ 64) _) hr.units) (pv 0) (pv 1) (fun _ _ => rfl)) pa_nil))))) pa_nil))))), ?_⟩
  obtain ⟨rfl, k⟩ | ⟨g, kvs, f, rfl, kp, k⟩ := h
  · exact s_retX (R := fun v _ => v = .str "None") (x_if' (b := true) (et_is (et_test (ev_op (ev_var rfl) ev_c (fun H1 _ Q q => ⟨rfl, q H1 (Ex.refl H1)⟩))) (by simp)) (fun _ => x_of ev_c) (fun z => nomatch z)) fun v H1 e1 hv => by
      rw [hv]
      exact k H1 e1
  · obtain ⟨ns, hns⟩ := nums_of kp.key.2
    have nd : ns.Nodup := by
      have := kp.key.1
      rw [hns] at this
      exact List.Pairwise.of_map Sum.inl (fun a b h e => h (by rw [e])) this
    obtain ⟨N, Z, szN, N1, NZ, fz⟩ := kp.sz
    have ln : ns.length ≤ N := by
      have := congrArg List.length hns
      rw [List.length_map, List.length_map] at this
      rw [← this]
      exact szN
    have dm : ∀ n, n ∈ ns ↔ f n ≠ none := fun n => by
      rw [mem_key hns]
      constructor
      · rintro ⟨v, hv⟩
        obtain ⟨t, h1, _⟩ := (kp.fv n).1 v hv
        rw [h1]
        exact fun z => nomatch z
      · intro h
        cases hv : valV kvs (.inl n) with
        | some v => exact ⟨v, rfl⟩
        | none => exact absurd ((kp.fv n).2 hv) h
    have sm : ∀ n ∈ ns, n.natAbs < 10 ^ 30 := fun n hn => by
      have : (Sum.inl n : Key) ∈ kvs.map (·.1) := by rw [hns]; exact List.mem_map.mpr ⟨n, hn, rfl⟩
      obtain ⟨p, hp, e⟩ := List.mem_map.mp this
      exact kp.small p hp n e
    refine s_retX (R := fun v _ => ∃ ns, Numbers f ns ∧ v = .str (shF f ns)) (x_if' (b := false) (et_is (et_test (ev_op (ev_var rfl) ev_c (fun H1 _ Q q => ⟨rfl, q H1 (Ex.refl H1)⟩))) (by simp)) (fun z => nomatch z) (fun _ => ?_)) fun v H1 e1 hv => by
      obtain ⟨ns, h1, rfl⟩ := hv
      exact k ns H1 e1 h1
    intro H1 e1 Q1 q1
    refine cb_x (x_lcN (C := fun xs => ∃ ms : List Int, xs = ms.map V.int ∧ Numbers f ms ∧ ms.Perm ns) (Rf := fun xs => xs.map (PairR f)) (fun xs _ R hR => ?_) (fun H2 e2 Q2 q2 => ⟨_, rfl, g, kvs, ns, rfl, e2 _ _ kp.at_, hns, fun ms q pm so hq => q2 _ _ (Ex.new hq) ⟨q, _, rfl, upd_same, ms, rfl, ⟨pm.nodup_iff.mpr nd, so, fun n => pm.mem_iff.trans (dm n)⟩, pm⟩⟩) (fun xs _ => List.length_map _) (fun xs h => ?_) (fun _ => rfl) (fun xs h i x R H2 e2 hx hR => ?_)) e1 (fun v H2 e2 h => ?_)
    · obtain ⟨x, _, rfl⟩ := List.mem_map.mp hR
      exact PairR.monT
    · obtain ⟨ms, rfl, _, pm⟩ := h
      rw [List.length_map, pm.length_eq]
      omega
    · obtain ⟨ms, rfl, nm, pm⟩ := h
      rw [List.getElem?_map, hx] at hR
      cases hR
      rw [List.getElem?_map] at hx
      obtain ⟨n, hn, rfl⟩ := Option.map_eq_some_iff.mp hx
      obtain ⟨v, hv⟩ := (mem_key hns).mp (pm.mem_iff.mp (List.mem_of_getElem? hn))
      obtain ⟨t, ft, tv⟩ := (kp.fv n).1 v hv
      refine x_imp (x_tup (Rs := [fun v _ => v = .int n, LL.IsT t]) (two_mem (p := Mon) (fun _ _ _ _ h => h) (fun _ _ _ e h => h.mono (TupEx.of e))) (by show 2 ≤ 100000; decide) (xa_cons (fun _ _ _ _ h => h) (x_of (ev_var rfl)) (xa_cons (fun _ _ _ e h => h.mono (TupEx.of e)) (x_imp (x_of (v := v) (fun H3 e3 Q3 q3 => ⟨_, rfl, .int n, rfl, g, v, rfl, ?_, q3 H3 (Ex.refl H3)⟩)) fun u H3 e3 hu => ?_) xa_nil))) fun v H3 e3 h => ⟨n, t, rfl, ft, h⟩
      · rw [← hv]
        exact DGet.k (k := .inl n) ((e2.trans e3) _ _ kp.at_)
      · rw [hu]
        exact tv.mono (TupEx.of (e2.trans e3))
    · obtain ⟨xs, ⟨ms, rfl, nm, pm⟩, p, ys, rfl, hp, ha⟩ := h
      have hg2 := (e1.trans e2) _ _ kp.at_
      have L : ∀ d ∈ ms.map (pairD f), Lim 221 (40 * Z + 40) d := fun d hd => by
        obtain ⟨n, hn, rfl⟩ := List.mem_map.mp hd
        have hn2 := pm.mem_iff.mp hn
        cases ft : f n with
        | none => exact absurd ft ((dm n).mp hn2)
        | some t =>
          have gt := kp.gd n t ft
          have e : pairD f n = .tuple [.int n, t.dT] := by
            unfold pairD
            rw [ft]
            rfl
          rw [e]
          have z := fz n t ft
          exact (Lim.pair ((lim_num (sm n hn2)).mono (Nat.zero_le 220) (Nat.le_refl _)) ((Thg.lim gt.2.1).mono (n' := 220) (k' := 40 * Z) gt.2.2.1 (by omega))).mono (Nat.le_refl _) (by omega)
      have L2 := Lim.list L
      refine ⟨g, .ref p, .list (ms.map (pairD f)), rfl, .lst (fun z => by rw [z, hg2] at hp; cases hp) hp (dzs_pairs (fun xs z => by rw [hg2] at z; cases z) ha), rfl, L2.sh, Nat.le_trans L2.dp (by decide), Nat.le_trans L2.ln ?_, q1 _ H2 e2 ⟨ms, nm, rfl⟩⟩
      rw [List.length_map, pm.length_eq, sizeLine_eq]
      have a1 : (40 * Z + 40 + 2) * ns.length ≤ (40 * Z + 40 + 2) * N := Nat.mul_le_mul_left _ ln
      have a2 : N * (40 * Z + 40 + 2) ≤ N * (40 * Z + 80) := Nat.mul_le_mul_left _ (by omega)
      rw [Nat.mul_comm (40 * Z + 40 + 2) N] at a1
      omega
end
end K03
set_option maxHeartbeats 600000
/-! Drawn sorts, drawn unknowns. -/
namespace K03
open PySem PySem.Spec PyProof.Rows L2 Evl LL
def spSorts : Sp := fun vs H Q _ => ∃ l c b B n, vs = [.ref l, .ref b, .int n] ∧ 1 ≤ n ∧ n ≤ 1000 ∧ HandC H l c ∧ BookAt H b B ∧ B.Ok ∧ ∀ (p : Addr) (ss : List Str) (H' : Hp), H' p = some (.tup (ss.map V.str)) → 1 ≤ ss.length → (ss.length : Int) ≤ n → (∀ s ∈ ss, VS B.lists s) → Exl l H H' → HandC H' l c → Q (.ref p) H'
def spUnknown : Sp := fun vs H Q _ => ∃ l c o s m, vs = [.ref l, .str s, .ref o] ∧ HandC H l c ∧ o ≠ l ∧ o ≠ c ∧ Own m H o ∧ (∀ kvs, H o = some (.dK kvs) → kvs.length < 900) ∧
  ∀ r n H', Exo l o H H' → HandC H' l c → Own (fun k => if k = n then some s else m k) H' o → (m n = none ∨ m n = some s) → 0 ≤ n ∧ n < 1000 → Tv H' r (unkT n) → Q r H'
structure Fow (P : Program) (w : World) (K : PySem.W.Frag) (mg : Str → Option Value) (base : Heap) : Prop where
  range : mg "range" = none
  tuple : mg "tuple" = none
  list : mg "list" = none
  len : mg "len" = none
  sorted : mg "sorted" = none
  h_law_draw : Has P w K mg base CX0 "_law_draw" 1 ["hand", "many"] spDraw
  h_law_some : Has P w K mg base CX0 "_law_some" 2 ["hand", "things"] spSome
theorem el_rg {σ : L2.St} {H : Hp} {a b : Int} (h : RgOk a b) : EvL (tLstRg (tRg2 (tC (.int a)) (tC (.int b)))) σ H (rgV a b) := fun H1 e Q q => ⟨a, b, rfl, rfl, h, fun p hp => q p _ hp (Ex.new hp) upd_same⟩
def rgI (a b : Int) : List Int := (List.range (b - a).toNat).map fun i => a + (i : Nat)
theorem rgV_I (a b : Int) : rgV a b = (rgI a b).map V.int := by
  unfold rgV rgI
  rw [List.map_map]
  rfl
theorem rgI_mem {a b n : Int} : n ∈ rgI a b ↔ a ≤ n ∧ n < b := by
  unfold rgI
  rw [List.mem_map]
  constructor
  · rintro ⟨i, hi, rfl⟩
    rw [List.mem_range] at hi
    omega
  · intro h
    exact ⟨(n - a).toNat, by rw [List.mem_range]; omega, by omega⟩
def frees : List Int := [0, 1, 2, 3, 7, 20, 998, 999] ++ rgI 30 998 ++ rgI 4 30
theorem frees_bd : ∀ n ∈ frees, 0 ≤ n ∧ n < 1000 := by
  intro n hn
  unfold frees at hn
  rcases List.mem_append.mp hn with h | h
  · rcases List.mem_append.mp h with h | h
    · simp only [List.mem_cons, List.not_mem_nil, or_false] at h
      omega
    · have := rgI_mem.mp h
      omega
  · have := rgI_mem.mp h
    omega
theorem frees_len : frees.length ≤ 2000 := by
  unfold frees rgI
  simp only [List.length_append, List.length_map, List.length_range, List.length_cons, List.length_nil]
  omega
theorem frees_V : ([0, 1, 2, 3, 7, 20, 998, 999] : List Int).map V.int ++ rgV 30 998 ++ rgV 4 30 = frees.map V.int := by
  unfold frees
  rw [List.map_append, List.map_append, rgV_I, rgV_I]
/-- one of them is free -/
theorem frees_one {kvs : List (Key × V)} (h : kvs.length < 900) : ∃ n ∈ frees, valV kvs (.inl n) = none := by
  by_cases q : ∃ i : Nat, i < 968 ∧ valV kvs (.inl ((30 : Int) + (i : Nat))) = none
  · obtain ⟨i, hi, e⟩ := q
    exact ⟨_, List.mem_append_left _ (List.mem_append_right _ (rgI_mem.mpr (by omega))), e⟩
  · exfalso
    have z := nodup_le ((List.range 968).map fun i => (Sum.inl ((30 : Int) + (i : Nat)) : Key)) (kvs.map (·.1)) (by
      rw [List.nodup_iff_pairwise_ne, List.pairwise_map]
      refine List.Pairwise.imp (fun {a b} hab e => hab ?_) List.nodup_range
      have := Sum.inl.inj e
      omega) fun k hk => by
        obtain ⟨i, hi, rfl⟩ := List.mem_map.mp hk
        rw [List.mem_range] at hi
        by_cases e : valV kvs (.inl ((30 : Int) + (i : Nat))) = none
        · exact absurd ⟨i, hi, e⟩ q
        · cases hv : valV kvs (.inl ((30 : Int) + (i : Nat))) with
          | none => exact absurd hv e
          | some v =>
            unfold valV at hv
            obtain ⟨p, hp, _⟩ := Option.map_eq_some_iff.mp hv
            have p1 := List.find?_some hp
            exact List.mem_map.mpr ⟨p, List.mem_of_find?_eq_some hp, of_decide_eq_true p1⟩
    rw [List.length_map, List.length_map, List.length_range] at z
    omega
theorem keyI_put {kvs : List (Key × V)} {n : Int} {v : V} (h : KeyI kvs) : KeyI (putK kvs (.inl n) v) := by
  cases hv : valV kvs (.inl n) with
  | none => exact h.put hv
  | some v0 =>
    have ha : (kvs.any fun kv => decide (kv.1 = (Sum.inl n : Key))) = true := by rw [valV_any, hv]; rfl
    have ep : putK kvs (.inl n) v = kvs.map (fun kv => if kv.1 = Sum.inl n then (kv.1, v) else kv) := by unfold putK; rw [if_pos ha]
    have ek : (putK kvs (.inl n) v).map (·.1) = kvs.map (·.1) := by
      rw [ep, List.map_map]
      refine List.map_congr_left fun p _ => ?_
      show (if p.1 = Sum.inl n then (p.1, v) else p).1 = p.1
      split <;> rfl
    refine ⟨by rw [ek]; exact h.1, fun p hp => ?_⟩
    have : p.1 ∈ (putK kvs (.inl n) v).map (·.1) := List.mem_map.mpr ⟨p, hp, rfl⟩
    rw [ek] at this
    obtain ⟨q, hq, e⟩ := List.mem_map.mp this
    rw [← e]
    exact h.2 q hq
theorem own_put {m : Int → Option Str} {H : Hp} {o : Addr} {kvs : List (Key × V)} {n : Int} {s : Str} (key : KeyI kvs) (hv : ∀ n, valV kvs (.inl n) = (m n).map V.str) (hb : ∀ n, m n ≠ none → 0 ≤ n ∧ n < 1000) (hn : 0 ≤ n ∧ n < 1000) : Own (fun k => if k = n then some s else m k) (L2.upd H o (.dK (putK kvs (.inl n) (.str s)))) o := by
  refine ⟨_, upd_same, keyI_put key, fun k => ?_, fun k hk => ?_⟩
  · rw [L2.valV_put]
    by_cases e : k = n
    · subst e
      simp
    · rw [if_neg (fun z => e (Sum.inl.inj z))]
      show _ = Option.map V.str (if k = n then some s else m k)
      rw [if_neg e]
      exact hv k
  · by_cases e : k = n
    · rw [e]; exact hn
    · exact hb k (by simpa [e] using hk)
section
variable {P : Program} {w : World} {K : PySem.W.Frag} {mg : Str → Option Value} {base : Heap} {f : Addr} {fd : FuncData}
theorem scSorts : FnScope ["hand", "book", "most", "some", "place", "name", "words"] ["hand", "book", "most"] (defScope (top 18)) := ⟨rfl, rfl, rfl, by decide +kernel, rfl, by decide +kernel, by decide +kernel⟩
theorem ok_sorts (F : FnT K "_law_sorts" (top 18) f fd) (T : Fow P w K mg base) : FnOk P w K mg base CX0 3 f fd ["hand", "book", "most"] spSorts := by
  have sc := scSorts
  refine F.ok scSorts (fun vs H Q E h => ?_) (fun cdv A outer s H vs Q E hr h => ?_)
  · obtain ⟨_, _, _, _, _, rfl, _⟩ := h
    rfl
  refine ⟨_, PSs.nox (pss_cons (ps_set (i := 3) sc.nd rfl (Or.inr rfl) (pe_op op_cat (pe_lst (pa_cons pe_str (pa_cons pe_str (pa_cons pe_str (pa_cons pe_str pa_nil))))) (pe_lc (own := [("name", 5), ("words", 6)]) (tt := tYes) rfl sc.nd (pi_tup (pe_ix ix_tup (pv 1) pe_int (fun _ _ => rfl))) (blkOk_by (N := ["hand", "book", "most", "some", "place", "name", "words"]) (sc := defScope (top 18)) (by decide +kernel)) (fun _ _ _ _ _ => by exact (pg_tupK (K := K) (n := 2) rfl rfl (pgs_cons (pg_name (i := 5) sc.nd rfl (Or.inl rfl)) (pgs_cons (pg_name (i := 6) sc.nd rfl (Or.inl rfl)) pgs_nil)))) (fun _ _ _ _ _ => pts_nil) (fun _ _ _ _ _ => (pv 5)))))
      (pss_one (ps_ret (pe_callTy call_tuple_of (by rfl) T.tuple (by decide +kernel) (pa_cons (pe_lc (own := [("place", 4)]) (tt := tYes) rfl sc.nd (pi_range1 (by rfl) T.range (pa_cons (pe_op op_add pe_int (pe_callH T.h_law_draw hr pass0 (pa_cons (pv 0) (pa_cons (pv 2) pa_nil)))) pa_nil)) (blkOk_by (N := ["hand", "book", "most", "some", "place", "name", "words"]) (sc := defScope (top 18)) (by decide +kernel)) (fun _ _ _ _ _ => (pg_name (i := 4) sc.nd rfl (Or.inl rfl))) (fun _ _ _ _ _ => pts_nil) (fun _ _ _ _ _ => (pe_callH T.h_law_some hr pass0 (pa_cons (pv 0) (pa_cons (pv 3) pa_nil))))) pa_nil))))), ?_⟩
  obtain ⟨l, c, b, B, n, rfl, n1, n2, hh, hb, ok, k⟩ := h
  obtain ⟨x, y, z, vs, us, h1, h2, h3, h4, h5⟩ := hb.is_
  refine q_asgL (el_catN (el_lst (vs := [.str "kind", .str "kind", .str "kind", .str "number"]) (by exact ea_cons ev_c (ea_cons ev_c (ea_cons ev_c (ea_cons ev_c ea_nil)))) (by show 4 ≤ 100000; decide)) (el_lcNames (a := x) (ev_op (ev_var rfl) ev_c (rv_ixT (st_of h1) (atI_nat (j := 0) rfl))) h2.sq h3 (Nat.le_trans ok.l.few (by decide)) (fun _ _ => rfl) (fun _ _ => rfl)) (by rw [List.length_map]; have := ok.l.few; show 4 + _ ≤ _; omega)) fun srt H1 nsrt e1 hsrt => ?_
  obtain ⟨sl, sc_⟩ := hh.new nsrt
  have hh1 := hh.mono e1
  have lf := ok.l.few
  refine ⟨_, rfl, _, rfl, l, c, n, rfl, n1, by omega, hh1, fun f1 H2 g0 g1 e2 hh2 => ⟨1, f1, rfl, rfl, 1 + f1, rfl, by omega, by omega, fun Dl hD => ?_⟩⟩
  obtain ⟨dl, dc⟩ := hh2.new hD
  have hsrt2 := e2 _ _ sl hsrt
  refine lcY walk_range (fun j zs G => ∃ ss : List Str, zs = ss.map V.str ∧ (∀ s ∈ ss, VS B.lists s) ∧ Exl l H2 G ∧ HandC G l c) ?_ (fun _ => rfl) (fun _ _ _ _ _ => trivial) ?_ ?_
  · exact ⟨[], rfl, nofun, Exl.own (Exl.refl l H2) hD, hh2.own dl dc⟩
  · rintro j zs ys G G' hj lz hDl ⟨ss, rfl, hss, exg, hhg⟩ ⟨rfl, _⟩
    have srg := exg _ _ sl hsrt2
    refine ⟨_, rfl, _, rfl, l, c, srt, _, rfl, sl, .inl srg, by simp, by simp; omega, hhg, fun u G2 hu e10 hh10 => ?_⟩
    have hs1 : ∃ s, u = .str s ∧ VS B.lists s := by
      simp only [List.cons_append, List.nil_append, List.mem_cons, List.mem_map] at hu
      rcases hu with rfl | rfl | rfl | rfl | ⟨p, hp, rfl⟩
      · exact ⟨_, rfl, .inl rfl⟩
      · exact ⟨_, rfl, .inl rfl⟩
      · exact ⟨_, rfl, .inl rfl⟩
      · exact ⟨_, rfl, .inr (.inl rfl)⟩
      · exact ⟨_, rfl, .inr (.inr ⟨p, hp, rfl⟩)⟩
    obtain ⟨s1, rfl, vs1⟩ := hs1
    refine NxC.of lz (by omega) (e10 _ _ dl hDl) ⟨ss ++ [s1], by simp, fun s hs2 => ?_, Exl.own (exg.trans e10) hD, hh10.own dl dc⟩
    rcases List.mem_append.mp hs2 with q | q
    · exact hss s q
    · rw [List.mem_singleton.mp q]
      exact vs1
  · rintro zs G lz hDl ⟨ss, rfl, hss, exg, hhg⟩
    rw [List.length_map] at lz
    refine ⟨Dl, _, rfl, .inl ⟨sq_of hDl, fun tp htp => ?_⟩⟩
    exact k tp ss _ upd_same (by omega) (by omega) hss ((((Exl.of e1).trans e2).trans exg).trans (Exl.of (Ex.new htp))) (hhg.mono (Ex.new htp))
theorem scUnknown : FnScope ["hand", "sort", "own", "some", "free", "number"] ["hand", "sort", "own"] (defScope (top 19)) := ⟨rfl, rfl, rfl, by decide +kernel, rfl, by decide +kernel, by decide +kernel⟩
theorem ok_unknown (F : FnT K "_law_unknown" (top 19) f fd) (T : Fow P w K mg base) : FnOk P w K mg base CX0 3 f fd ["hand", "sort", "own"] spUnknown := by
  have sc := scUnknown
  refine F.ok scUnknown (fun vs H Q E h => ?_) (fun cdv A outer s H vs Q E hr h => ?_)
  · obtain ⟨_, _, _, _, _, rfl, _⟩ := h
    rfl
  refine ⟨_, PSs.nox (pss_cons (ps_setLc (i := 3) (own := [("number", 5)]) rfl sc.nd rfl rfl (sw_true rfl rfl rfl (by decide +kernel)) (pi_list (pe_callB (cr_sortedD rfl) (by rfl) T.sorted (by decide +kernel) (pa_cons (pv 2) pa_nil))) (blkOk_by (N := ["hand", "sort", "own", "some", "free", "number"]) (sc := defScope (top 19)) (by decide +kernel)) (fun _ _ _ _ _ => (pg_name (i := 5) sc.nd rfl (Or.inl rfl))) (fun _ _ _ _ _ => (pts_one (pt_cmpR op_eq (pe_dget (Nat.lt_of_le_of_lt (Nat.add_le_add_left (by decide : 1 ≤ 64) _) hr.units) (pv 2) (pv 5) (fun _ _ => rfl)) (pv 1) (nomark _)))) (fun _ _ _ _ _ => (pv 5)))
      (pss_cons (ps_set (i := 4) sc.nd rfl (Or.inl rfl) (pe_op op_cat (pe_op op_cat (pe_lst (pa_cons pe_int (pa_cons pe_int (pa_cons pe_int (pa_cons pe_int (pa_cons pe_int (pa_cons pe_int (pa_cons pe_int (pa_cons pe_int pa_nil))))))))) (pe_listRg rfl (by rfl) T.list (prg_2 (by rfl) T.range pe_int pe_int))) (pe_listRg rfl (by rfl) T.list (prg_2 (by rfl) T.range pe_int pe_int))))
      (pss_cons (ps_setLc (i := 4) (own := [("number", 5)]) rfl sc.nd rfl rfl (sw_true rfl rfl rfl (by decide +kernel)) (pi_list (pv 4)) (blkOk_by (N := ["hand", "sort", "own", "some", "free", "number"]) (sc := defScope (top 19)) (by decide +kernel)) (fun _ _ _ _ _ => (pg_name (i := 5) sc.nd rfl (Or.inl rfl))) (fun _ _ _ _ _ => (pts_one (pt_cmp (pc_dnotin (Nat.lt_of_le_of_lt (Nat.add_le_add_left (by decide : 1 ≤ 64) _) hr.units) (pv 5) (pv 2))))) (fun _ _ _ _ _ => (pv 5)))
      (pss_cons (ps_set (i := 5) sc.nd rfl (Or.inl rfl) (pe_ifExp (PW.pt (pw_and (pt_cmpR op_gt (pe_callB call_len (by rfl) T.len (by decide +kernel) (pa_cons (pv 3) pa_nil)) pe_int (nomark _)) (pw_and1 (pt_cmpR op_eq (pe_callH T.h_law_draw hr pass0 (pa_cons (pv 0) (pa_cons pe_int pa_nil))) pe_int (nomark _))))) (pe_callH T.h_law_some hr pass0 (pa_cons (pv 0) (pa_cons (pv 3) pa_nil))) (pe_callH T.h_law_some hr pass0 (pa_cons (pv 0) (pa_cons (pe_slice sl_list (pv 4) po_none (po_some pe_int)) pa_nil)))))
      (pss_cons (ps_asg (pv 1) (pg_sub (pv 2) (pv 5) (set_dict (Nat.lt_of_le_of_lt (Nat.add_le_add_left (by decide : 1 ≤ 64) _) hr.units))))
      (pss_one (ps_ret (pe_tup (pa_cons pe_str (pa_cons (pv 5) pa_nil)))))))))), ?_⟩
  obtain ⟨l, c, o, s, m, rfl, hh, ol, oc, ⟨kvs, ho, key, hv, hb⟩, few, k⟩ := h
  have lf := few kvs ho
  obtain ⟨ns, hns⟩ := nums_of key.2
  have fin : ∀ (n : Int) (v3 v4 : Option V) (H' : Hp), (m n = none ∨ m n = some s) → 0 ≤ n ∧ n < 1000 → Exl l H H' → HandC H' l c → tSeq (tAsg (tVar 1) (gSub (tVar 2) (tVar 5) rSetD)) (tRet (tTup (tCons (tC (.str "?")) (tCons (tVar 5) tNil)))) { nx := fun _ H' => Q .non H', rt := Q } [some (.ref l), some (.str s), some (.ref o), v3, v4, some (.int n)] H' := by
    intro n v3 v4 H' hm hn ex hh'
    have ho' := ex _ _ ol ho
    refine ⟨_, rfl, _, rfl, _, rfl, o, _, rfl, DPut.k (k := .inl n) ho' (sz_lt (by omega)), ?_⟩
    refine ⟨.int n, rfl, by show 2 ≤ sizeLine; decide, fun p hp => ?_⟩
    have po : o ≠ p := fun z => by rw [← z, upd_same] at hp; cases hp
    refine k (.ref p) n _ (((Exo.of ex).trans Exo.upd).trans (Exo.ex (Ex.new hp))) ((hh'.own ol oc).mono (Ex.new hp)) ((own_put key hv hb hn).at fun x q => (Ex.new hp) _ _ q) hm hn (.node upd_same (.cons (.num n) .nil))
  refine q_asgQ ?_
  refine ⟨_, rfl, o, kvs, ns, rfl, ho, hns, fun ms q pm so hq => ⟨q, rfl, ⟨_, sq_of upd_same⟩, fun Dl hD => ?_⟩⟩
  have mlen : ms.length = kvs.length := by
    have := congrArg List.length hns
    rw [List.length_map, List.length_map] at this
    rw [pm.length_eq]
    exact this.symm
  have hoq : L2.upd H q (.lst (ms.map V.int)) o = some (.dK kvs) := (Ex.new hq) _ _ ho
  refine lc_it (walk_list (xs := ms.map V.int)) (Cw (L2.upd H q (.lst (ms.map V.int))) (fun i => decide (m (ms.getD i 0) = some s)) (fun i => .int (ms.getD i 0)) Dl) ⟨hD, Ex.new hD, upd_same⟩ (fun i H' _ pv => sq_of (pv.2.1 _ _ upd_same)) (fun i x H' H'' hi pv y => ?_) (fun H3 pv => ?_)
  · obtain ⟨rfl, hx⟩ := y
    rw [List.getElem?_map] at hx
    obtain ⟨n, hn, rfl⟩ := Option.map_eq_some_iff.mp hx
    have gn : ms.getD i 0 = n := by rw [List.getD_eq_getElem?_getD, hn]; rfl
    rw [List.length_map] at hi
    obtain ⟨v0, hv0⟩ := (mem_key hns).mp (pm.mem_iff.mp (List.mem_of_getElem? hn))
    obtain ⟨s0, hs0, rfl⟩ : ∃ s0, m n = some s0 ∧ v0 = .str s0 := by
      have := hv n
      rw [hv0] at this
      cases hm : m n with
      | none => rw [hm] at this; cases this
      | some s0 => rw [hm] at this; exact ⟨s0, rfl, by cases this; rfl⟩
    refine ⟨rfl, cw_turn pv (by omega) ?_ ?_⟩
    · refine et_is (et_test (ev_op (x := .str s0) (fun H1 e Q q => ⟨_, rfl, _, rfl, o, _, rfl, ?_, q H1 (Ex.refl H1)⟩) (ev_var rfl) (rv_eq rfl))) ?_
      · have z := DGet.k (k := .inl n) (e _ _ hoq)
        rw [hv0] at z
        exact z
      · show decide (V.str s0 = V.str s) = decide (m (ms.getD i 0) = some s)
        rw [gn, hs0]
        by_cases z : s0 = s
        · simp [z]
        · rw [decide_eq_false (fun h => z (V.str.inj h)), decide_eq_false (fun h => z (Option.some.inj h))]
    · intro _
      refine ev_is (ev_var rfl) ?_
      rw [gn]
  obtain ⟨p1, p2, p3⟩ := pv
  have so1 : ∀ x ∈ given (ms.map V.int).length (fun i => decide (m (ms.getD i 0) = some s)) (fun i => V.int (ms.getD i 0)), ∃ n, x = .int n ∧ m n = some s := by
    intro x hx
    obtain ⟨i, hi, rfl⟩ := List.mem_map.mp hx
    exact ⟨_, rfl, of_decide_eq_true (List.mem_filter.mp hi).2⟩
  have sol := given_len (ms.map V.int).length (fun i => decide (m (ms.getD i 0) = some s)) (fun i => V.int (ms.getD i 0))
  revert so1 sol p3
  generalize given (ms.map V.int).length (fun i => decide (m (ms.getD i 0) = some s)) (fun i => V.int (ms.getD i 0)) = So
  intro p3 so1 sol
  rw [List.length_map] at sol
  have e3 : Ex H H3 := (Ex.new hq).trans p2
  refine q_asgL (el_catN (el_catN (el_lst (vs := ([0, 1, 2, 3, 7, 20, 998, 999] : List Int).map V.int) (by exact ea_cons ev_c (ea_cons ev_c (ea_cons ev_c (ea_cons ev_c (ea_cons ev_c (ea_cons ev_c (ea_cons ev_c (ea_cons ev_c ea_nil)))))))) (by show 8 ≤ 100000; decide)) (el_rg (a := 30) (b := 998) (by unfold RgOk; decide)) ?_) (el_rg (a := 4) (b := 30) (by unfold RgOk; decide)) ?_) fun fr0 H4 _ e4 h4 => ?_
  · rw [rgV_I, List.length_map, List.length_map]
    unfold rgI
    simp only [List.length_map, List.length_range, List.length_cons, List.length_nil]
    omega
  · rw [rgV_I, rgV_I, List.length_append, List.length_map, List.length_map, List.length_map]
    unfold rgI
    simp only [List.length_map, List.length_range, List.length_cons, List.length_nil]
    omega
  rw [frees_V] at h4
  have ho4 := e4 _ _ (e3 _ _ ho)
  refine q_asgL (el_lcL (fun i => !(valV kvs (.inl (frees.getD i 0))).isSome) (fun i => .int (frees.getD i 0)) (ev_var rfl) (sq_of h4) (by rw [List.length_map]; have := frees_len; omega) (fun _ => rfl) (fun i x H1 e1 hx => ?_) (fun i x H1 e1 hx _ => ?_)) fun fr H5 nfr e5 h5 => ?_
  · rw [List.getElem?_map] at hx
    obtain ⟨n, hn, rfl⟩ := Option.map_eq_some_iff.mp hx
    have gn : frees.getD i 0 = n := by rw [List.getD_eq_getElem?_getD, hn]; rfl
    rw [gn]
    exact et_B fun H2 e2 Q q => ⟨_, rfl, _, rfl, o, _, rfl, DGet.k (k := .inl n) (e2 _ _ (e1 _ _ ho4)), q H2 (Ex.refl H2)⟩
  · rw [List.getElem?_map] at hx
    obtain ⟨n, hn, rfl⟩ := Option.map_eq_some_iff.mp hx
    have gn : frees.getD i 0 = n := by rw [List.getD_eq_getElem?_getD, hn]; rfl
    exact ev_is (ev_var rfl) (by rw [gn])
  have fr1 : ∀ x ∈ given (frees.map V.int).length (fun i => !(valV kvs (.inl (frees.getD i 0))).isSome) (fun i => V.int (frees.getD i 0)), ∃ n, x = .int n ∧ m n = none ∧ 0 ≤ n ∧ n < 1000 := by
    intro x hx
    obtain ⟨i, hi, rfl⟩ := List.mem_map.mp hx
    obtain ⟨h1, h2⟩ := List.mem_filter.mp hi
    rw [List.mem_range, List.length_map] at h1
    have q := frees_bd (frees.getD i 0) (by rw [List.getD_eq_getElem?_getD, List.getElem?_eq_getElem h1]; exact List.getElem_mem h1)
    refine ⟨_, rfl, ?_, q.1, q.2⟩
    have z := hv (frees.getD i 0)
    cases hm : m (frees.getD i 0) with
    | none => rfl
    | some s0 =>
      rw [hm] at z
      rw [z] at h2
      cases h2
  have fr2 : given (frees.map V.int).length (fun i => !(valV kvs (.inl (frees.getD i 0))).isSome) (fun i => V.int (frees.getD i 0)) ≠ [] := by
    obtain ⟨n, hn, e⟩ := frees_one lf
    obtain ⟨i, hi, rfl⟩ := List.getElem_of_mem hn
    intro z
    have gn : frees.getD i 0 = frees[i] := by rw [List.getD_eq_getElem?_getD, List.getElem?_eq_getElem hi]; rfl
    have : V.int (frees.getD i 0) ∈ ([] : List V) := by
      rw [← z]
      exact List.mem_map.mpr ⟨i, List.mem_filter.mpr ⟨List.mem_range.mpr (by rw [List.length_map]; exact hi), by rw [gn, e]; rfl⟩, rfl⟩
    cases this
  have frl := given_len (frees.map V.int).length (fun i => !(valV kvs (.inl (frees.getD i 0))).isSome) (fun i => V.int (frees.getD i 0))
  rw [List.length_map] at frl
  have frl2 := frees_len
  revert fr1 fr2 frl h5
  rw [List.length_map]
  generalize given frees.length (fun i => !(valV kvs (.inl (frees.getD i 0))).isSome) (fun i => V.int (frees.getD i 0)) = Fr0
  intro h5 fr1 fr2 frl
  have e05 : Ex H H5 := (e3.trans e4).trans e5
  have hh5 := hh.mono e05
  have p35 := e5 _ _ (e4 _ _ p3)
  have nD : Dl ≠ l := (hh.mono (Ex.new hq)).new hD |>.1
  have nF : fr ≠ l := (hh.mono (e3.trans e4)).new nfr |>.1
  refine q_asgQ ?_
  have other : ∀ H6, Exl l H5 H6 → HandC H6 l c → tCall spSome [] E0 (tCons (tVar 0) (tCons (tSl (rSlL K) (tVar 4) tNoPart (tPart (tC (.int 8)))) tNil)) [some (.ref l), some (.str s), some (.ref o), some (.ref Dl), some (.ref fr), none] H6 fun v H7 => tSeq (tAsg (tVar 1) (gSub (tVar 2) (tVar 5) rSetD)) (tRet (tTup (tCons (tC (.str "?")) (tCons (tVar 5) tNil)))) { nx := fun _ H' => Q .non H', rt := Q } [some (.ref l), some (.str s), some (.ref o), some (.ref Dl), some (.ref fr), some v] H7 := by
    intro H6 e6 hh6
    refine ⟨_, rfl, _, rfl, 8, rfl, fr, Fr0, rfl, sq_of (e6 _ _ nF h5), fun z hz => ?_⟩
    obtain ⟨zl, zc⟩ := hh6.new hz
    have mem : ∀ x ∈ cutV Fr0 none (some 8), x ∈ Fr0 := fun x hx => List.mem_of_mem_drop (List.mem_of_mem_take hx)
    refine ⟨l, c, z, _, rfl, zl, .inl upd_same, ?_, ?_, hh6.mono (Ex.new hz), fun u H7 hu e7 hh7 => ?_⟩
    · obtain ⟨y, ys, rfl⟩ := List.exists_cons_of_ne_nil fr2
      unfold cutV
      simp [HT.sIx]
    · unfold cutV
      rw [List.length_take, List.length_drop]
      omega
    · obtain ⟨n, rfl, h1, h2⟩ := fr1 u (mem u hu)
      exact fin n _ _ H7 (.inl h1) h2 ((((Exl.of e05).trans e6).trans (Exl.of (Ex.new hz))).trans e7) hh7
  refine if_and (b := decide ((0 : Int) < (So.length : Nat))) (et_test (ev_op (ev_cb (z := .int (So.length : Nat)) (ea_cons (ev_var rfl) ea_nil) fun H2 e Q q => ⟨_, _, rfl, .inl ⟨_, sq_of (e _ _ p35), rfl⟩, q H2 (Ex.refl H2)⟩) ev_c rv_I0)) (fun hs0 H6 e6 => ?_) (fun hs0 H6 e6 => ?_)
  · have hs0 : 0 < So.length := by simpa using hs0
    refine ⟨_, rfl, l, c, 2, rfl, by decide, by decide, hh5.mono e6, fun f1 H7 g0 g1 e7 hh7 => ⟨rfl, _, rfl, ?_⟩⟩
    dsimp only
    by_cases hf : f1 = 0
    · rw [if_pos (by simp [hf])]
      refine ⟨_, rfl, _, rfl, l, c, Dl, So, rfl, nD, .inl (e7 _ _ nD (e6 _ _ p35)), (fun z => by rw [z] at hs0; cases hs0), by omega, hh7, fun u H8 hu e8 hh8 => ?_⟩
      obtain ⟨n, rfl, hn⟩ := so1 u hu
      exact fin n _ _ H8 (.inr hn) (hb n (by rw [hn]; exact fun z => nomatch z)) (((Exl.of (e05.trans e6)).trans e7).trans e8) hh8
    · rw [if_neg (by simpa using hf)]
      exact other H7 ((Exl.of e6).trans e7) hh7
  · exact other H6 (Exl.of e6) (hh5.mono e6)
end
end K03
set_option maxHeartbeats 2000000
/-! Drawn things. -/
namespace K03
open PySem PySem.Spec PyProof.Rows L2 Evl LL
def spThing (d : Nat) : Sp := fun vs H Q _ => ∃ (l c b : Addr) (B : Bk) (s : Str) (e : Nat) (v : V) (o : Addr) (m : Int → Option Str), vs = [.ref l, .ref b, .str s, .int (e : Nat), v] ∧ e < d ∧ (s = "kind" → 1 ≤ e) ∧ HandC H l c ∧ BookAt H b B ∧ B.Ok ∧ VS B.lists s ∧ OwnV l c v o m H ∧ OwnS B.lists m ∧
  ∀ (r : V) (t : Thg) (m' : Int → Option Str) (H' : Hp), Exo l o H H' → HandC H' l c → OwnV l c v o m' H' → OwnS B.lists m' → Grown m m' → Dom m m' [t] → Tv H' r t → ThOk B e t → Q r H'
theorem mergeK_new : ∀ (more acc : List (Key × V)), ((acc ++ more).map (·.1)).Nodup → mergeK acc more = acc ++ more
  | [], acc, _ => by simp [mergeK]
  | (k, v) :: more, acc, h => by
    have hk : valV acc k = none := by
      cases hv : valV acc k with
      | none => rfl
      | some u =>
        exfalso
        unfold valV at hv
        obtain ⟨p, hp, _⟩ := Option.map_eq_some_iff.mp hv
        have p0 := List.find?_some hp
        have p1 : p.1 = k := of_decide_eq_true p0
        have p2 := List.mem_of_find?_eq_some hp
        rw [List.map_append, List.map_cons, List.nodup_append] at h
        exact h.2.2 p.1 (List.mem_map.mpr ⟨p, p2, rfl⟩) k List.mem_cons_self p1
    have e : mergeK acc ((k, v) :: more) = mergeK (putK acc k v) more := rfl
    rw [e, LL.putK_new hk, mergeK_new more (acc ++ [(k, v)]) (by simpa using h)]
    simp
theorem valV_at {kvs : List (Key × V)} {k : Key} {v : V} (nd : (kvs.map (·.1)).Nodup) (h : (k, v) ∈ kvs) : valV kvs k = some v := by
  induction kvs with
  | nil => cases h
  | cons p kvs ih =>
    rw [List.map_cons, List.nodup_cons] at nd
    unfold valV
    rw [List.find?_cons]
    rcases List.mem_cons.mp h with e | e
    · rw [← e]
      simp
    · have n : ¬ p.1 = k := fun z => nd.1 (by rw [z]; exact List.mem_map.mpr ⟨(k, v), e, rfl⟩)
      rw [decide_eq_false n]
      exact ih nd.2 e
theorem prs_pairs {K : PySem.W.Frag} {H : Hp} : ∀ {L : List Pr} {vs : List V}, All2 (L.map IsPr) vs H → ∃ (ps : List Addr) (kvs : List (Key × V)), vs = ps.map V.ref ∧ Paired (fun p kv => SqT K H p [kV kv.1, kv.2]) ps kvs ∧ kvs.map (·.1) = L.map (fun p => Sum.inr p.1) ∧ ∀ p ∈ L, ∃ w, (Sum.inr p.1, V.ref w) ∈ kvs ∧ H w = some (.tup (p.2.map V.str))
  | [], _, .nil => ⟨[], [], rfl, .nil, rfl, nofun⟩
  | p :: L, _, .cons h hs => by
    obtain ⟨ps, kvs, e, h1, h2, h3⟩ := prs_pairs hs
    obtain ⟨a, b, rfl, g1, g2⟩ := h
    refine ⟨a :: ps, (Sum.inr p.1, .ref b) :: kvs, by rw [e]; rfl, .cons (st_of g1) h1, by rw [List.map_cons, h2]; rfl, fun q hq => ?_⟩
    rcases List.mem_cons.mp hq with z | z
    · rw [z]
      exact ⟨b, List.mem_cons_self, g2⟩
    · obtain ⟨w, k1, k2⟩ := h3 q z
      exact ⟨w, List.mem_cons_of_mem _ k1, k2⟩
structure Fth (P : Program) (w : World) (K : PySem.W.Frag) (mg : Str → Option Value) (base : Heap) (d : Nat) : Prop where
  len : mg "len" = none
  dict : mg "dict" = none
  tuple : mg "tuple" = none
  h_law_draw : Has P w K mg base CX0 "_law_draw" 1 ["hand", "many"] spDraw
  h_law_some : Has P w K mg base CX0 "_law_some" 2 ["hand", "things"] spSome
  h_law_unknown : Has P w K mg base CX0 "_law_unknown" 3 ["hand", "sort", "own"] spUnknown
  h_law_thing : Has P w K mg base CX0 "_law_thing" (d + 3) ["hand", "book", "sort", "deep", "own"] (spThing d)
theorem thOk_num {B : Bk} {e : Nat} {i : Int} (h : i.natAbs < 10 ^ 30) : ThOk B e (.num i) := ⟨h, by have := szB_mono (Nat.zero_le e); show 1 ≤ szB e; simp [szB] at this; omega, Nat.zero_le _⟩
theorem thOk_word {B : Bk} {e : Nat} {s : Str} (h : BW B s) (k : WordOk s) : ThOk B e (.word s) := ⟨⟨h, k⟩, by have := szB_mono (Nat.zero_le e); show 1 ≤ szB e; simp [szB] at this; omega, Nat.zero_le _⟩
theorem thOk_unk {B : Bk} {e : Nat} {n : Int} (h : 0 ≤ n ∧ n < 1000) : ThOk B e (unkT n) := ⟨⟨wordOk_q, (fun _ => ⟨n, rfl, fun _ => h⟩), (show n.natAbs < 10 ^ 30 from Nat.lt_of_lt_of_le (show n.natAbs < 1000 by omega) (by decide)), trivial⟩, szB_mono (Nat.zero_le e), by show max 0 0 + 1 ≤ e + 1; simp⟩
theorem thOk_new {B : Bk} {e : Nat} {n : Int} (h : n.natAbs < 10 ^ 30) : ThOk B e (.node "~" [.num n]) := ⟨⟨wordOk_t, (fun _ => ⟨n, rfl, fun z => absurd z (by decide)⟩), h, trivial⟩, szB_mono (Nat.zero_le e), by show max 0 0 + 1 ≤ e + 1; simp⟩
theorem unk_num (i : Int) : Thg.unkL [.num i] = [] := by simp [Thg.unkL, Thg.preL, Thg.pre, Thg.unk]
theorem unk_word (s : Str) : Thg.unkL [.word s] = [] := by simp [Thg.unkL, Thg.preL, Thg.pre, Thg.unk]
theorem unk_new (n : Int) : Thg.unkL [.node "~" [.num n]] = [] := by
  have e : ¬ (("~" : Str) = "?") := by decide
  simp [Thg.unkL, Thg.preL, Thg.pre, Thg.unk, Thg.leafy, e]
theorem unk_plain {h : Str} {ts : List Thg} (hl : Thg.leafy h = false) : Thg.unkL [.node h ts] = Thg.unkL ts := by
  have h1 : h ≠ "?" := fun z => by rw [z] at hl; cases hl
  rw [Thg.unk_node, Thg.unk_closed (by simpa [Thg.isO] using h1)]
  simp [Thg.kids, hl]
theorem inV_kind (ss : List Str) : inV (.str "kind") (ss.map V.str) = decide (("kind" : Str) ∈ ss) := by
  unfold inV
  rw [List.any_map]
  induction ss with
  | nil => rfl
  | cons s ss ih =>
    rw [List.any_cons, ih]
    show (eqV (.str s) (.str "kind") || _) = _
    by_cases e : s = "kind"
    · subst e
      simp [eqV]
    · have e2 : ¬ (("kind" : Str) = s) := fun z => e z.symm
      simp [eqV, e, e2]
theorem flat_strs (ss : List Str) : (ss.map V.str).all flatV = true := by
  rw [List.all_map]
  exact List.all_eq_true.mpr fun x _ => rfl
section
variable {P : Program} {w : World} {K : PySem.W.Frag} {mg : Str → Option Value} {base : Heap} {f : Addr} {fd : FuncData}
theorem scThing : FnScope ["hand", "book", "sort", "deep", "own", "name", "parts", "head", "one"] ["hand", "book", "sort", "deep", "own"] (defScope (top 20)) := ⟨rfl, rfl, rfl, by decide +kernel, rfl, by decide +kernel, by decide +kernel⟩
theorem ok_thing (d : Nat) (F : FnT K "_law_thing" (top 20) f fd) (T : Fth P w K mg base d) : FnOk P w K mg base CX0 (d + 4) f fd ["hand", "book", "sort", "deep", "own"] (spThing (d + 1)) := by
  have sc := scThing
  refine F.ok scThing (fun vs H Q E h => ?_) (fun cdv A outer s H vs Q E hr h => ?_)
  · obtain ⟨_, _, _, _, _, _, _, _, _, rfl, _⟩ := h
    rfl
  refine ⟨_, PSs.nox (pss_cut (ps_if (PW.pt (pw_and (pt_cmpR op_notN (pv 4) pe_non (nomark _)) (pw_and (pt_cmpR op_lt (pe_callB call_lenD (by rfl) T.len (by decide +kernel) (pa_cons (pv 4) pa_nil)) pe_int (nomark _)) (pw_and1 (pt_cmpR op_eq (pe_callH (hj := by omega) T.h_law_draw hr pass0 (pa_cons (pv 0) (pa_cons pe_int pa_nil))) pe_int (nomark _)))))) (pss_one (ps_ret (pe_callH (hj := by omega) T.h_law_unknown hr pass0 (pa_cons (pv 0) (pa_cons (pv 2) (pa_cons (pv 4) pa_nil)))))) pss_nil)
      (pss_cons (ps_if (pt_cmpR op_eq (pv 2) pe_str (nomark _)) (pss_one (ps_ret (pe_callH (hj := by omega) T.h_law_some hr pass0 (pa_cons (pv 0) (pa_cons (pe_lst (pa_cons pe_int (pa_cons pe_int (pa_cons pe_int (pa_cons pe_int (pa_cons (pe_un un_neg pe_int) (pa_cons (pe_op op_pow pe_int pe_int) (pa_cons (pe_un un_neg (pe_op op_pow pe_int pe_int)) (pa_cons (pe_callH (hj := by omega) T.h_law_draw hr pass0 (pa_cons (pv 0) (pa_cons pe_int pa_nil))) pa_nil))))))))) pa_nil))))) pss_nil)
      (pss_cons (ps_if (pt_cmpR op_ne (pv 2) pe_str (nomark _)) (pss_one (ps_ret (pe_callH (hj := by omega) T.h_law_some hr pass0 (pa_cons (pv 0) (pa_cons (pe_dget (Nat.lt_of_le_of_lt (Nat.add_le_add_left (by decide : 1 ≤ 64) _) hr.units) (pe_callTy (call_dictT rfl) (by rfl) T.dict (by decide +kernel) (pa_cons (pe_ix ix_tup (pv 1) pe_int (fun _ _ => rfl)) pa_nil)) (pv 2) (fun _ _ => rfl)) pa_nil))))) pss_nil)
      (pss_cons (ps_if (pt_cmpR op_eq (pe_callH (hj := by omega) T.h_law_draw hr pass0 (pa_cons (pv 0) (pa_cons pe_int pa_nil))) pe_int (nomark _)) (pss_one (ps_ret (pe_tup (pa_cons pe_str (pa_cons (pe_callH (hj := by omega) T.h_law_some hr pass0 (pa_cons (pv 0) (pa_cons (pe_lst (pa_cons pe_int (pa_cons pe_int (pa_cons pe_int (pa_cons pe_int (pa_cons (pe_op op_pow pe_int pe_int) pa_nil)))))) pa_nil))) pa_nil))))) pss_nil)
      (pss_cons (ps_asg (pe_callH (hj := by omega) T.h_law_some hr pass0 (pa_cons (pv 0) (pa_cons (pe_lc (own := [("head", 7)]) rfl sc.nd (pi_tup (pe_ix ix_tup (pv 1) pe_int (fun _ _ => rfl))) (blkOk_by (N := ["hand", "book", "sort", "deep", "own", "name", "parts", "head", "one"]) (sc := defScope (top 20)) (by decide +kernel)) (fun _ _ _ _ _ => (pg_name (i := 7) sc.nd rfl (Or.inl rfl))) (fun _ _ _ _ _ => by exact (pts_one (PW.pt (pw_or (pt_cmpR op_gt (pv 3) pe_int (nomark _)) (pw_or1 (pt_cmpR (op_notIn_seqK (K := K) rfl) pe_str (pe_ix (ix_tupK (K := K) rfl) (pv 7) pe_int (fun _ _ => rfl)) (by rfl))))))) (fun _ _ _ _ _ => (pv 7))) pa_nil))) (pg_tup rfl (pgs_cons (pg_name (i := 5) sc.nd rfl (Or.inl rfl)) (pgs_cons (pg_name (i := 6) sc.nd rfl (Or.inl rfl)) pgs_nil))))
      (pss_one (ps_ret (pe_op op_catA (pe_tup (pa_cons (pv 5) pa_nil)) (pe_callTy call_tuple_of (by rfl) T.tuple (by decide +kernel) (pa_cons (pe_lc (own := [("one", 8)]) (tt := tYes) rfl sc.nd (pi_tup (pv 6)) (blkOk_by (N := ["hand", "book", "sort", "deep", "own", "name", "parts", "head", "one"]) (sc := defScope (top 20)) (by decide +kernel)) (fun _ _ _ _ _ => (pg_name (i := 8) sc.nd rfl (Or.inl rfl))) (fun _ _ _ _ _ => pts_nil) (fun _ _ _ _ _ => (pe_callH (hj := by omega) T.h_law_thing hr pass0 (pa_cons (pv 0) (pa_cons (pv 1) (pa_cons (pv 8) (pa_cons (pe_op op_sub (pv 3) pe_int) (pa_cons (pv 4) pa_nil)))))))) pa_nil)))))))))), ?_⟩
  obtain ⟨l, c, b, B, s, e, v, o, m, rfl, ed, e1, hh, hb, ok, vs_, ow, os, k⟩ := h
  have closed : ∀ r t H', Exl l H H' → HandC H' l c → Tv H' r t → ThOk B e t → Thg.unkL [t] = [] → Q r H' := fun r t H' ex hh' tv th hu => k r t m H' (Exo.of ex) hh' (ow.exl ex) os (Grown.refl m) (Dom.closed hu) tv th
  refine q_cut (M := fun σ' H' => σ' = [some (.ref l), some (.ref b), some (.str s), some (.int (e : Nat)), some v, none, none, none, none] ∧ Exl l H H' ∧ HandC H' l c) ?first ?rest
  case first =>
    rcases ow with ⟨rfl, rfl, mn⟩ | ⟨rfl, ol, oc, own⟩
    · exact ifS_and (b := false) (et_is (et_test (ev_op (ev_var rfl) ev_c (fun H1 _ Q q => ⟨rfl, q H1 (Ex.refl H1)⟩))) (by simp)) (fun z => nomatch z) (fun _ H1 e1 => ⟨rfl, Exl.of e1, hh.mono e1⟩)
    · obtain ⟨kvs, ho, own2⟩ := own
      refine ifS_and (b := true) (et_is (et_test (ev_op (ev_var rfl) ev_c (fun H1 _ Q q => ⟨rfl, q H1 (Ex.refl H1)⟩))) (by simp)) (fun _ H1 e1 => ?_) (fun z => nomatch z)
      refine ifS_and (b := decide ((kvs.length : Int) < 900)) (et_test (ev_op (ev_cb (z := .int (kvs.length : Nat)) (ea_cons (ev_var rfl) ea_nil) fun H2 e2 Q q => ⟨o, kvs, rfl, e2 _ _ (e1 _ _ ho), q H2 (Ex.refl H2)⟩) ev_c rv_I0)) (fun hlt H2 e2 => ?_) (fun _ H2 e2 => ⟨rfl, Exl.of (e1.trans e2), hh.mono (e1.trans e2)⟩)
      have hlt : kvs.length < 900 := by have := of_decide_eq_true hlt; omega
      refine ⟨_, rfl, l, c, 3, rfl, by decide, by decide, hh.mono (e1.trans e2), fun f1 H3 g0 g1 e3 hh3 => ⟨rfl, _, rfl, ?_⟩⟩
      have x03 : Exl l H H3 := (Exl.of (e1.trans e2)).trans e3
      have ho3 := x03 _ _ ol ho
      dsimp only
      by_cases hf : f1 = 0
      · rw [if_pos (by simp [hf])]
        refine ⟨_, rfl, _, rfl, _, rfl, l, c, o, s, m, rfl, hh3, ol, oc, ⟨kvs, ho3, own2⟩, fun kvs' hk => by rw [ho3] at hk; cases hk; exact hlt, fun r n H4 ex4 hh4 own4 hm hn tv => ?_⟩
        refine k r (unkT n) _ H4 ((Exo.of x03).trans ex4) hh4 (.inr ⟨rfl, ol, oc, own4⟩) (fun n' s' hs => ?_) (fun n' s' hs => ?_) (fun n' => ?_) tv (thOk_unk hn)
        · by_cases z : n' = n
          · simp only [z, if_true] at hs
            cases hs
            exact vs_
          · simp only [z, if_false] at hs
            exact os n' s' hs
        · by_cases z : n' = n
          · subst z
            simp only [if_true]
            rcases hm with q | q
            · rw [q] at hs; cases hs
            · rw [q] at hs; exact hs
          · simp only [z, if_false]
            exact hs
        · rw [unkT_unk, List.mem_singleton]
          by_cases z : n' = n
          · simp [z]
          · simp [z]
      · rw [if_neg (by simpa using hf)]
        exact ⟨rfl, x03, hh3⟩
  case rest =>
    rintro σ H1 ⟨rfl, x1, hh1⟩
    have hb1 := hb.mono (hh.stay x1)
    refine q_when (b := decide (V.str s = V.str "number")) (et_test (ev_op (ev_var rfl) ev_c (rv_eq rfl))) (fun hs H2 e2 => ?_) (fun hs H2 e2 => ?_)
    · refine ⟨_, rfl, 1, rfl, 10, 19, rfl, rfl, ⟨by decide, by decide, by decide⟩, 10, 19, rfl, rfl, ⟨by decide, by decide, by decide⟩, _, rfl, _, rfl, l, c, 100, rfl, by decide, by decide, hh1.mono e2, fun f1 H3 g0 g1 e3 hh3 => ⟨by show 8 ≤ sizeLine; decide, fun p hp => ?_⟩⟩
      obtain ⟨pl, pc⟩ := hh3.new hp
      refine ⟨l, c, p, _, rfl, pl, .inl upd_same, by simp, by show 8 ≤ 100000; decide, hh3.mono (Ex.new hp), fun u H4 hu e4 hh4 => ?_⟩
      have hi : ∃ i : Int, u = .int i ∧ i.natAbs < 10 ^ 30 := by
        simp only [List.mem_cons, List.not_mem_nil, or_false] at hu
        rcases hu with rfl | rfl | rfl | rfl | rfl | rfl | rfl | rfl
        · exact ⟨_, rfl, by decide⟩
        · exact ⟨_, rfl, by decide⟩
        · exact ⟨_, rfl, by decide⟩
        · exact ⟨_, rfl, by decide⟩
        · exact ⟨_, rfl, by decide⟩
        · exact ⟨_, rfl, by decide +kernel⟩
        · exact ⟨_, rfl, by decide +kernel⟩
        · exact ⟨_, rfl, Nat.lt_of_lt_of_le (show f1.natAbs < 100 by omega) (by decide)⟩
      obtain ⟨i, rfl, hi⟩ := hi
      exact closed _ (.num i) H4 (((x1.trans (Exl.of e2)).trans e3).trans ((Exl.of (Ex.new hp)).trans e4)) hh4 (.num i) (thOk_num hi) (unk_num i)
    have hh2 := hh1.mono e2
    have hb2 := hb1.mono (Stay.ex e2)
    refine q_when (b := !decide (V.str s = V.str "kind")) (et_test (ev_op (ev_var rfl) ev_c (rv_ne rfl))) (fun hk H3 e3 => ?_) (fun hk H3 e3 => ?_)
    · have ns : s ≠ "number" := fun z => by simp [z] at hs
      have nk : s ≠ "kind" := fun z => by simp [z] at hk
      obtain ⟨p, hp, ps_⟩ : ∃ p ∈ B.lists, p.1 = s := by
        rcases vs_ with z | z | z
        · exact absurd z nk
        · exact absurd z ns
        · exact z
      have hb3 := hb2.mono (Stay.ex e3)
      obtain ⟨x, y, z, us, vs, q1, q2, q3, q4, q5⟩ := hb3.is_
      obtain ⟨ads, kvs, ev, pr, kk, kw⟩ := prs_pairs (K := K) q3
      obtain ⟨wd, kw1, kw2⟩ := kw p hp
      have nd : (kvs.map (·.1)).Nodup := by
        rw [kk]
        have := ok.l.names
        rw [List.nodup_iff_pairwise_ne, List.pairwise_map] at this ⊢
        exact this.imp fun h z => h (Sum.inr.inj z)
      refine ⟨_, rfl, _, rfl, b, _, 0, .ref x, rfl, rfl, st_of q1, atI_nat (j := 0) rfl, x, ads, kvs, rfl, by rw [← ev]; exact q2, pr, fun g hg => ?_⟩
      rw [mergeK_new kvs [] (by simpa using nd), List.nil_append]
      refine ⟨_, rfl, g, .ref wd, rfl, ?_, l, c, wd, p.2.map V.str, rfl, ?_, .inr ((Ex.new hg) _ _ kw2), ?_, ?_, (hh2.mono e3).mono (Ex.new hg), fun u H4 hu e4 hh4 => ?_⟩
      · have z := DGet.k (H := L2.upd H3 g (.dK kvs)) (a := g) (k := .inr s) upd_same
        rw [valV_at nd (by rw [← ps_]; exact kw1)] at z
        exact z
      · exact ((hh2.mono e3).tup kw2).1
      · have := (ok.l.lst p hp).2.2.1
        simpa using this
      · rw [List.length_map]
        have := (ok.l.lst p hp).2.2.2.1
        omega
      · obtain ⟨w1, hw1, rfl⟩ := List.mem_map.mp hu
        exact closed _ (.word w1) H4 (((x1.trans (Exl.of e2)).trans (Exl.of e3)).trans ((Exl.of (Ex.new hg)).trans e4)) hh4 (.word w1) (thOk_word ⟨p, hp, hw1⟩ ((ok.l.lst p hp).2.2.2.2 w1 hw1)) (unk_word w1)
    have hh3 := hh2.mono e3
    have x3 : Exl l H H3 := (x1.trans (Exl.of e2)).trans (Exl.of e3)
    have sk : s = "kind" := V.str.inj (by simpa using hk)
    have e1 : 1 ≤ e := e1 sk
    refine ⟨_, rfl, l, c, 9, rfl, by decide, by decide, hh3, fun f1 H4 g0 g1 e4 hh4 => ⟨rfl, _, rfl, ?_⟩⟩
    have hb4 := (hb2.mono (Stay.ex e3)).mono (hh3.stay e4)
    dsimp only
    by_cases hf : f1 = 0
    · rw [if_pos (by simp [hf])]
      refine ⟨_, rfl, 10, 19, rfl, rfl, ⟨by decide, by decide, by decide⟩, by show 5 ≤ sizeLine; decide, fun p hp => ?_⟩
      obtain ⟨pl, pc⟩ := hh4.new hp
      refine ⟨l, c, p, _, rfl, pl, .inl upd_same, by simp, by show 5 ≤ 100000; decide, hh4.mono (Ex.new hp), fun u H5 hu e5 hh5 => ⟨by show 2 ≤ sizeLine; decide, fun q hq => ?_⟩⟩
      have hi : ∃ i : Int, u = .int i ∧ i.natAbs < 10 ^ 30 := by
        simp only [List.mem_cons, List.not_mem_nil, or_false] at hu
        rcases hu with rfl | rfl | rfl | rfl | rfl
        · exact ⟨_, rfl, by decide⟩
        · exact ⟨_, rfl, by decide⟩
        · exact ⟨_, rfl, by decide⟩
        · exact ⟨_, rfl, by decide⟩
        · exact ⟨_, rfl, by decide +kernel⟩
      obtain ⟨i, rfl, hi⟩ := hi
      exact closed _ (.node "~" [.num i]) _ (((x3.trans e4).trans ((Exl.of (Ex.new hp)).trans e5)).trans (Exl.of (Ex.new hq))) (hh5.mono (Ex.new hq)) (.node upd_same (.cons (.num i) .nil)) (thOk_new hi) (unk_new i)
    rw [if_neg (by simpa using hf)]
    have x4 : Exl l H H4 := x3.trans e4
    obtain ⟨x, y, z, vs, us, q1, q2, q3, q4, q5⟩ := hb4.is_
    have ulen : us.length = B.heads.length := by rw [← q5.len, List.length_map]
    have few := ok.few
    refine ⟨_, rfl, _, rfl, b, _, 1, .ref y, rfl, rfl, st_of q1, atI_nat (j := 1) rfl, y, rfl, ⟨us, st_of q4⟩, fun Dl hD => ?_⟩
    obtain ⟨dl, dc⟩ := hh4.new hD
    refine lc_it (walk_tup (xs := us)) (Cw H4 (fun i => decide ((1 : Int) < (e : Nat)) || !decide (("kind" : Str) ∈ (B.heads.getD i ("", [])).2)) (fun i => us.getD i .non) Dl) ⟨hD, Ex.new hD, upd_same⟩ (fun i H' _ pv => st_of (pv.2.1 _ _ q4)) (fun i u H' H'' hi pv yy => ?_) (fun H5 pv => ?_)
    · obtain ⟨rfl, hu⟩ := yy
      obtain ⟨R, hR, r⟩ := all2_get q5 hu
      rw [List.getElem?_map] at hR
      obtain ⟨p, hp, rfl⟩ := Option.map_eq_some_iff.mp hR
      obtain ⟨a, w0, rfl, g1, g2⟩ := r
      have gp : B.heads.getD i ("", []) = p := by rw [List.getD_eq_getElem?_getD, hp]; rfl
      have gu : us.getD i .non = .ref a := by rw [List.getD_eq_getElem?_getD, hu]; rfl
      refine ⟨rfl, cw_turn pv (by omega) ?_ (fun _ => ev_is (ev_var rfl) gu.symm)⟩
      refine et_is (et_or (a := decide ((1 : Int) < (e : Nat))) (et_test (ev_op (ev_var rfl) ev_c rv_I0)) (fun _ => et_test (ev_op ev_c (ev_op (ev_var rfl) ev_c (rv_ixT (st_of g1) (atI_nat (j := 1) rfl))) (rv_niT (st_of g2) rfl (flat_strs _))))) ?_
      rw [inV_kind, gp]
    obtain ⟨p1, p2, p3⟩ := pv
    have mem : ∀ u ∈ given us.length (fun i => decide ((1 : Int) < (e : Nat)) || !decide (("kind" : Str) ∈ (B.heads.getD i ("", [])).2)) (fun i => us.getD i .non), ∃ p ∈ B.heads, IsPr p u H4 ∧ (e = 1 → ("kind" : Str) ∉ p.2) := by
      intro u hu
      obtain ⟨i, hi, rfl⟩ := List.mem_map.mp hu
      obtain ⟨h1, h2⟩ := List.mem_filter.mp hi
      rw [List.mem_range] at h1
      have hui : us[i]? = some (us.getD i .non) := by rw [List.getD_eq_getElem?_getD, List.getElem?_eq_getElem h1]; rfl
      obtain ⟨R, hR, r⟩ := all2_get q5 hui
      rw [List.getElem?_map] at hR
      obtain ⟨p, hp, rfl⟩ := Option.map_eq_some_iff.mp hR
      have gp : B.heads.getD i ("", []) = p := by rw [List.getD_eq_getElem?_getD, hp]; rfl
      rw [gp] at h2
      refine ⟨p, List.mem_of_getElem? hp, r, fun he => ?_⟩
      subst he
      simpa using h2
    have ne : given us.length (fun i => decide ((1 : Int) < (e : Nat)) || !decide (("kind" : Str) ∈ (B.heads.getD i ("", [])).2)) (fun i => us.getD i .non) ≠ [] := by
      obtain ⟨p, hp, hk0⟩ := ok.base
      obtain ⟨i, hi, rfl⟩ := List.getElem_of_mem hp
      intro zz
      have gp : B.heads.getD i ("", []) = B.heads[i] := by rw [List.getD_eq_getElem?_getD, List.getElem?_eq_getElem hi]; rfl
      have : us.getD i .non ∈ ([] : List V) := by
        rw [← zz]
        exact List.mem_map.mpr ⟨i, List.mem_filter.mpr ⟨List.mem_range.mpr (by omega), by rw [gp]; simp [hk0]⟩, rfl⟩
      cases this
    have gl := given_len us.length (fun i => decide ((1 : Int) < (e : Nat)) || !decide (("kind" : Str) ∈ (B.heads.getD i ("", [])).2)) (fun i => us.getD i .non)
    refine ⟨l, c, Dl, _, rfl, dl, .inl p3, ne, by omega, hh4.mono p2, fun u H6 hu e6 hh6 => ?_⟩
    obtain ⟨p, hp, ⟨a, w0, rfl, g1, g2⟩, pk⟩ := mem u hu
    have x6 : Exl l H4 H6 := (Exl.of p2).trans e6
    have st6 := hh4.stay x6
    have g1 := st6.tup _ _ g1
    have g2 := st6.tup _ _ g2
    have hb6 := hb4.mono st6
    have ow6 := ow.exl (x4.trans x6)
    have x06 : Exl l H H6 := x4.trans x6
    obtain ⟨ph1, ph2, ph3, ph4⟩ := ok.hd p hp
    have nb := ok.nb p hp
    refine ⟨a, _, rfl, st_of g1, rfl, _, _, rfl, _, _, rfl, rfl, ?_⟩
    refine ⟨_, rfl, by show 1 ≤ sizeLine; decide, fun q hq => ⟨_, rfl, w0, rfl, ⟨_, st_of ((Ex.new hq) _ _ g2)⟩, fun D2 hD2 => ?_⟩⟩
    have hh7 := hh6.mono (Ex.new (o := .tup [.str p.1]) hq)
    have hb7 := hb6.mono (Stay.new (x := .tup [.str p.1]) hq)
    have ow7 : OwnV l c v o m (L2.upd H6 q (.tup [.str p.1])) := ow6.exl (Exl.of (Ex.new hq))
    have x07 : Exl l H (L2.upd H6 q (.tup [.str p.1])) := x06.trans (Exl.of (Ex.new hq))
    have hq7 : L2.upd H6 q (.tup [.str p.1]) q = some (.tup [.str p.1]) := upd_same
    have g27 : L2.upd H6 q (.tup [.str p.1]) w0 = some (.tup (p.2.map V.str)) := (Ex.new hq) _ _ g2
    revert hh7 hb7 ow7 x07 hq7 g27 hD2
    show ∀ (hD2 : L2.upd H6 q (.tup [.str p.1]) D2 = none), _
    generalize L2.upd H6 q (.tup [.str p.1]) = H7
    intro hD2 hh7 hb7 ow7 x07 hq7 g27
    obtain ⟨d2l, d2c⟩ := hh7.new hD2
    have d2o : D2 ≠ o := by
      rcases ow7 with ⟨_, z, _⟩ | ⟨_, _, _, kvs, z, _⟩
      · rw [z]; exact d2l
      · exact fun zz => by rw [zz, z] at hD2; cases hD2
    have off7 := ow7.off hh7
    refine lcY (walk_tup (xs := p.2.map V.str)) (fun i zs G => ∃ ts m2, Tvs G zs ts ∧ ts.length = i ∧ (∀ t ∈ ts, ThOk B (e - 1) t) ∧ OwnV l c v o m2 G ∧ OwnS B.lists m2 ∧ Grown m m2 ∧ Dom m m2 ts ∧ Exo l o H7 G ∧ HandC G l c) ?_ (fun _ => rfl) ?_ ?_ ?_
    · exact ⟨[], m, .nil, rfl, nofun, ow7.upd d2o, os, Grown.refl m, Dom.nil m, (Exo.refl l o H7).own hD2, hh7.own d2l d2c⟩
    · rintro i zs G hi ⟨ts, m2, _, _, _, _, _, _, _, ex, _⟩
      exact st_of ((ex.stay off7).tup _ _ g27)
    · rintro i u zs G G' hi lz hDl ⟨ts, m2, tv, tl, th, ow2, os2, gr2, dm2, ex, hg⟩ ⟨rfl, hu⟩
      rw [List.length_map] at hi
      rw [List.getElem?_map] at hu
      obtain ⟨s1, hs1, rfl⟩ := Option.map_eq_some_iff.mp hu
      have ee : ((e : Int) - 1) = ((e - 1 : Nat) : Int) := by omega
      have ms1 := List.mem_of_getElem? hs1
      refine ⟨_, rfl, _, rfl, _, rfl, _, rfl, (e : Nat), 1, rfl, rfl, _, rfl, l, c, b, B, s1, e - 1, v, o, m2, by show [V.ref l, V.ref b, V.str s1, V.int ((e : Int) - 1), v] = _; rw [ee], by omega, fun zk => ?_, hg, hb7.mono (ex.stay off7), ok, ph4 s1 ms1, ow2, os2, fun r t m3 H8 ex8 hh8 ow8 os8 gr8 dm8 tv8 th8 => ?_⟩
      · by_cases he : e = 1
        · exact absurd (by rw [← zk]; exact ms1) (pk he)
        · omega
      have off2 := ow2.off hg
      have st8 := ex8.stay off2
      have hD8 := ex8 _ _ d2l d2o hDl
      refine NxC.of lz (by omega) hD8 ⟨ts ++ [t], m3, ?_, by simp [tl], fun t' ht => ?_, ow8.upd d2o, os8, gr2.trans gr8, dm2.app dm8, (ex.trans ex8).own hD2, hh8.own d2l d2c⟩
      · have stD := Stay.lst (x := .lst (zs ++ [r])) hD8
        exact Tvs.app (.cons (tv8.mono stD.tup) .nil) (tv.mono (st8.trans stD).tup)
      · rcases List.mem_append.mp ht with z | z
        · exact th t' z
        · rw [List.mem_singleton.mp z]
          exact th8
    · rintro zs G lz hDl ⟨ts, m2, tv, tl, th, ow2, os2, gr2, dm2, ex, hg⟩
      rw [List.length_map] at lz tl
      have stG := ex.stay off7
      refine ⟨D2, zs, rfl, .inl ⟨sq_of hDl, fun tp htp => ?_⟩⟩
      have thN : ThOk B e (.node p.1 ts) := by
        have a1 := szL_le (ts := ts) (M := szB (e - 1)) fun t ht => (th t ht).sz
        have a2 := dpL_le (ts := ts) (M := e) fun t ht => by have := (th t ht).dp; omega
        have a3 : szB e = 3 * szB (e - 1) + 1 := by
          obtain ⟨e', rfl⟩ : ∃ e', e = e' + 1 := ⟨e - 1, by omega⟩
          rfl
        have a4 : szB (e - 1) * ts.length ≤ szB (e - 1) * 3 := Nat.mul_le_mul_left _ (by omega)
        refine ⟨⟨ph1, (fun z => by rw [ph2] at z; cases z), Thg.NcL.of fun t ht => (th t ht).nc⟩, ?_, ?_⟩
        · show Thg.szL ts + 1 ≤ szB e
          omega
        · show Thg.dpL ts + 1 ≤ e + 1
          omega
      have dN : Dom m m2 [.node p.1 ts] := fun n => by rw [unk_plain ph2]; exact dm2 n
      have hqG := stG.tup _ _ hq7
      refine ⟨q, tp, [.str p.1], zs, rfl, rfl, st_of ((Ex.new htp) _ _ hqG), st_of upd_same, sz_of (by show 1 + _ ≤ _; omega), (fun z => nomatch z), (fun _ zn => ?_), (fun _ _ pl hpl => ?_)⟩
      · subst zn
        cases tv
        exact k _ (.node p.1 []) m2 _ (((Exo.of x07).trans ex).trans (Exo.ex (Ex.new htp))) (hg.mono (Ex.new htp)) (ow2.exl (Exl.of (Ex.new htp))) os2 gr2 dN (.node ((Ex.new htp) _ _ hqG) .nil nb) thN
      · have exx := (Ex.new (o := .tup zs) htp).trans (Ex.new (o := .tup ([.str p.1] ++ zs)) hpl)
        exact k _ (.node p.1 ts) m2 _ (((Exo.of x07).trans ex).trans (Exo.ex exx)) (hg.mono exx) (ow2.exl (Exl.of exx)) os2 gr2 dN (.node upd_same (tv.mono (TupEx.of exx)) nb) thN
/-- as deep as one likes -/
theorem thing_all (F : FnT K "_law_thing" (top 20) f fd) (h1 : mg "len" = none) (h2 : mg "dict" = none) (h3 : mg "tuple" = none) (h4 : Has P w K mg base CX0 "_law_draw" 1 ["hand", "many"] spDraw) (h5 : Has P w K mg base CX0 "_law_some" 2 ["hand", "things"] spSome) (h6 : Has P w K mg base CX0 "_law_unknown" 3 ["hand", "sort", "own"] spUnknown)
    (hm : mg "_law_thing" = some (.ref f)) (hk : PySem.W.keepIn K (.ref f) = true) (hb : Binds K fd ["hand", "book", "sort", "deep", "own"] []) : ∀ d, FnOk P w K mg base CX0 (d + 3) f fd ["hand", "book", "sort", "deep", "own"] (spThing d)
  | 0 => ⟨fun vs H Q E h => by obtain ⟨_, _, _, _, _, _, _, _, _, rfl, _⟩ := h; rfl, fun A outer s H args us vs Q E hr he hbb hv h => by
    obtain ⟨_, _, _, _, _, _, _, _, _, _, hd, _⟩ := h
    omega⟩
  | d + 1 => ok_thing d F ⟨h1, h2, h3, h4, h5, h6, ⟨f, fd, hm, hk, hb, thing_all F h1 h2 h3 h4 h5 h6 hm hk hb d⟩⟩
end
end K03
set_option maxHeartbeats 2000000
/-! Drawn bundles, drawn fillings. -/
namespace K03
open PySem PySem.Spec PyProof.Rows L2 Evl LL
def spBundle : Sp := fun vs H Q _ => ∃ (l c b : Addr) (B : Bk) (sp : Addr) (ss : List Str) (v : V) (o : Addr) (m : Int → Option Str), vs = [.ref l, .ref b, .ref sp, .int 3, v] ∧ H sp = some (.tup (ss.map V.str)) ∧ ss.length ≤ 1000 ∧ (∀ s ∈ ss, VS B.lists s) ∧ HandC H l c ∧ BookAt H b B ∧ B.Ok ∧ OwnV l c v o m H ∧ OwnS B.lists m ∧
  ∀ (r : Addr) (zs : List V) (ts : List Thg) (m' : Int → Option Str) (H' : Hp), Exo l o H H' → HandC H' l c → OwnV l c v o m' H' → OwnS B.lists m' → Grown m m' → Dom m m' ts → H' r = some (.tup zs) → Tvs H' zs ts → ts.length = ss.length → (∀ t ∈ ts, ThOk B 3 t) → Q (.ref r) H'
/-- a number, what is put for it -/
abbrev En : Type := Int × V × Thg
def IsEn (x : En) : VP := fun v H => ∃ a, v = .ref a ∧ H a = some (.tup [.int x.1, x.2.1]) ∧ Tv H x.2.1 x.2.2
theorem IsEn.monT {x : En} : MonT (IsEn x) := fun v H H' e ⟨a, h1, h2, h3⟩ => ⟨a, h1, e _ _ h2, h3.mono e⟩
theorem ens_monT {es : List En} : ∀ R ∈ es.map IsEn, MonT R := fun R hR => by
  obtain ⟨p, _, rfl⟩ := List.mem_map.mp hR
  exact IsEn.monT
def enK (es : List En) : List (Key × V) := es.map fun x => (Sum.inl x.1, x.2.1)
def enF (es : List En) : Int → Option Thg := fun n => (es.find? fun x => decide (x.1 = n)).map (·.2.2)
theorem enK_val (es : List En) (n : Int) : valV (enK es) (.inl n) = (es.find? fun x => decide (x.1 = n)).map (·.2.1) := by
  unfold valV enK
  rw [List.find?_map, Option.map_map]
  have e : ((fun kv : Key × V => decide (kv.1 = Sum.inl n)) ∘ fun x : En => ((Sum.inl x.1 : Key), x.2.1)) = fun x : En => decide (x.1 = n) := by
    funext x
    show decide ((Sum.inl x.1 : Key) = Sum.inl n) = _
    by_cases h : x.1 = n
    · simp [h]
    · rw [decide_eq_false h, decide_eq_false fun z => h (Sum.inl.inj z)]
  rw [e]
  rfl
theorem enF_mem {es : List En} {n : Int} {t : Thg} (h : enF es n = some t) : ∃ x ∈ es, x.1 = n ∧ x.2.2 = t := by
  unfold enF at h
  obtain ⟨x, hx, rfl⟩ := Option.map_eq_some_iff.mp h
  have h1 := List.find?_some hx
  exact ⟨x, List.mem_of_find?_eq_some hx, of_decide_eq_true h1, rfl⟩
theorem enF_dom (es : List En) (n : Int) : n ∈ es.map (·.1) ↔ enF es n ≠ none := by
  unfold enF
  rw [Ne, Option.map_eq_none_iff, List.find?_eq_none]
  constructor
  · intro h z
    obtain ⟨x, hx, rfl⟩ := List.mem_map.mp h
    exact z x hx (by simp)
  · intro h
    by_cases q : n ∈ es.map (·.1)
    · exact q
    · exfalso
      refine h fun x hx => ?_
      intro z
      exact q (List.mem_map.mpr ⟨x, hx, of_decide_eq_true z⟩)
theorem en_fv {H : Hp} {es : List En} {vs : List V} (h : All2 (es.map IsEn) vs H) : Fv H (enK es) (enF es) := by
  intro n
  rw [enK_val]
  unfold enF
  cases e : es.find? fun x => decide (x.1 = n) with
  | none => exact ⟨(fun v z => nomatch z), fun _ => rfl⟩
  | some x =>
    refine ⟨(fun v z => ⟨x.2.2, rfl, ?_⟩), (fun z => nomatch z)⟩
    cases z
    have hx := List.mem_of_find?_eq_some e
    obtain ⟨i, hi, rfl⟩ := List.getElem_of_mem hx
    have : i < vs.length := by have := h.len; rw [List.length_map] at this; omega
    obtain ⟨R, hR, r⟩ := all2_get h (List.getElem?_eq_getElem this)
    rw [List.getElem?_map, List.getElem?_eq_getElem hi] at hR
    cases hR
    exact r.choose_spec.2.2
theorem en_key {es : List En} (h : (es.map (·.1)).Nodup) : KeyI (enK es) := by
  unfold enK
  refine ⟨?_, fun p hp => ?_⟩
  · rw [List.map_map]
    rw [List.nodup_iff_pairwise_ne, List.pairwise_map] at h ⊢
    exact h.imp fun hab z => hab (Sum.inl.inj z)
  · obtain ⟨x, _, rfl⟩ := List.mem_map.mp hp
    exact ⟨_, rfl⟩
theorem en_pairs {K : PySem.W.Frag} {H : Hp} : ∀ {es : List En} {vs : List V}, All2 (es.map IsEn) vs H → ∃ ps : List Addr, vs = ps.map V.ref ∧ Paired (fun p kv => SqT K H p [kV kv.1, kv.2]) ps (enK es)
  | [], _, .nil => ⟨[], rfl, .nil⟩
  | x :: es, _, .cons h hs => by
    obtain ⟨ps, e, q⟩ := en_pairs hs
    obtain ⟨a, rfl, h1, _⟩ := h
    exact ⟨a :: ps, by rw [e]; rfl, .cons (st_of h1) q⟩
def spFilling : Sp := fun vs H Q _ => ∃ (l c b : Addr) (B : Bk) (o1 p : Addr) (ns : List Int) (v : V) (o : Addr) (m1 m : Int → Option Str), vs = [.ref l, .ref b, .ref o1, .ref p, v] ∧ o1 ≠ l ∧ o1 ≠ o ∧ Own m1 H o1 ∧ OwnS B.lists m1 ∧ p ≠ l ∧ p ≠ o ∧ H p = some (.lst (ns.map V.int)) ∧ ns.length ≤ 1000 ∧ ns.Nodup ∧ (∀ n ∈ ns, m1 n ≠ none) ∧ HandC H l c ∧ BookAt H b B ∧ B.Ok ∧ OwnV l c v o m H ∧ OwnS B.lists m ∧
  ∀ (g : Addr) (kvs : List (Key × V)) (f : Int → Option Thg) (m' : Int → Option Str) (H' : Hp), Exo l o H H' → HandC H' l c → OwnV l c v o m' H' → OwnS B.lists m' → Grown m m' → H g = none → H' g = some (.dK kvs) → Fv H' kvs f → KeyI kvs → (∀ n, n ∈ ns ↔ f n ≠ none) → kvs.length = ns.length → (∀ n t, f n = some t → ThOk B 3 t ∧ ∀ k ∈ Thg.unkL [t], m' k ≠ none) → Q (.ref g) H'
structure Fbu (P : Program) (w : World) (K : PySem.W.Frag) (mg : Str → Option Value) (base : Heap) : Prop where
  dict : mg "dict" = none
  tuple : mg "tuple" = none
  h_law_thing : Has P w K mg base CX0 "_law_thing" 7 ["hand", "book", "sort", "deep", "own"] (spThing 4)
section
variable {P : Program} {w : World} {K : PySem.W.Frag} {mg : Str → Option Value} {base : Heap} {f : Addr} {fd : FuncData}
theorem scBundle : FnScope ["hand", "book", "sorts", "deep", "own", "sort"] ["hand", "book", "sorts", "deep", "own"] (defScope (top 21)) := ⟨rfl, rfl, rfl, by decide +kernel, rfl, by decide +kernel, by decide +kernel⟩
theorem ok_bundle (F : FnT K "_law_bundle" (top 21) f fd) (T : Fbu P w K mg base) : FnOk P w K mg base CX0 8 f fd ["hand", "book", "sorts", "deep", "own"] spBundle := by
  have sc := scBundle
  refine F.ok scBundle (fun vs H Q E h => ?_) (fun cdv A outer s H vs Q E hr h => ?_)
  · obtain ⟨_, _, _, _, _, _, _, _, _, rfl, _⟩ := h
    rfl
  refine ⟨_, PSs.nox (pss_one (ps_ret (pe_callTy call_tuple_of (by rfl) T.tuple (by decide +kernel) (pa_cons (pe_lc (own := [("sort", 5)]) (tt := tYes) rfl sc.nd (pi_tup (pv 2)) (blkOk_by (N := ["hand", "book", "sorts", "deep", "own", "sort"]) (sc := defScope (top 21)) (by decide +kernel)) (fun _ _ _ _ _ => (pg_name (i := 5) sc.nd rfl (Or.inl rfl))) (fun _ _ _ _ _ => pts_nil) (fun _ _ _ _ _ => (pe_callH (hj := by decide) T.h_law_thing hr pass0 (pa_cons (pv 0) (pa_cons (pv 1) (pa_cons (pv 5) (pa_cons (pv 3) (pa_cons (pv 4) pa_nil)))))))) pa_nil)))), ?_⟩
  obtain ⟨l, c, b, B, sp, ss, v, o, m, rfl, hsp, sl, vss, hh, hb, ok, ow, os, k⟩ := h
  refine ⟨_, rfl, sp, rfl, ⟨_, st_of hsp⟩, fun D2 hD2 => ?_⟩
  obtain ⟨d2l, d2c⟩ := hh.new hD2
  have d2o : D2 ≠ o := by
    rcases ow with ⟨_, z, _⟩ | ⟨_, _, _, kvs, z, _⟩
    · rw [z]; exact d2l
    · exact fun zz => by rw [zz, z] at hD2; cases hD2
  have off7 := ow.off hh
  refine lcY (walk_tup (xs := ss.map V.str)) (fun i zs G => ∃ ts m2, Tvs G zs ts ∧ ts.length = i ∧ (∀ t ∈ ts, ThOk B 3 t) ∧ OwnV l c v o m2 G ∧ OwnS B.lists m2 ∧ Grown m m2 ∧ Dom m m2 ts ∧ Exo l o H G ∧ HandC G l c) ?_ (fun _ => rfl) ?_ ?_ ?_
  · exact ⟨[], m, .nil, rfl, nofun, ow.upd d2o, os, Grown.refl m, Dom.nil m, (Exo.refl l o H).own hD2, hh.own d2l d2c⟩
  · rintro i zs G hi ⟨ts, m2, _, _, _, _, _, _, _, ex, _⟩
    exact st_of ((ex.stay off7).tup _ _ hsp)
  · rintro i u zs G G' hi lz hDl ⟨ts, m2, tv, tl, th, ow2, os2, gr2, dm2, ex, hg⟩ ⟨rfl, hu⟩
    rw [List.length_map] at hi
    rw [List.getElem?_map] at hu
    obtain ⟨s1, hs1, rfl⟩ := Option.map_eq_some_iff.mp hu
    have ms1 := List.mem_of_getElem? hs1
    refine ⟨_, rfl, _, rfl, _, rfl, _, rfl, _, rfl, l, c, b, B, s1, 3, v, o, m2, rfl, by omega, fun _ => by omega, hg, hb.mono (ex.stay off7), ok, vss s1 ms1, ow2, os2, fun r t m3 H8 ex8 hh8 ow8 os8 gr8 dm8 tv8 th8 => ?_⟩
    have off2 := ow2.off hg
    have st8 := ex8.stay off2
    have hD8 := ex8 _ _ d2l d2o hDl
    refine NxC.of lz (by omega) hD8 ⟨ts ++ [t], m3, ?_, by simp [tl], fun t' ht => ?_, ow8.upd d2o, os8, gr2.trans gr8, dm2.app dm8, (ex.trans ex8).own hD2, hh8.own d2l d2c⟩
    · have stD := Stay.lst (x := .lst (zs ++ [r])) hD8
      exact Tvs.app (.cons (tv8.mono stD.tup) .nil) (tv.mono (st8.trans stD).tup)
    · rcases List.mem_append.mp ht with z | z
      · exact th t' z
      · rw [List.mem_singleton.mp z]
        exact th8
  · rintro zs G lz hDl ⟨ts, m2, tv, tl, th, ow2, os2, gr2, dm2, ex, hg⟩
    rw [List.length_map] at lz tl
    refine ⟨D2, zs, rfl, .inl ⟨sq_of hDl, fun tp htp => ?_⟩⟩
    exact k tp zs ts m2 _ (ex.trans (Exo.ex (Ex.new htp))) (hg.mono (Ex.new htp)) (ow2.exl (Exl.of (Ex.new htp))) os2 gr2 dm2 upd_same (tv.mono (TupEx.of (Ex.new htp))) tl th
theorem scFilling : FnScope ["hand", "book", "own", "numbers", "known", "number"] ["hand", "book", "own", "numbers", "known"] (defScope (top 26)) := ⟨rfl, rfl, rfl, by decide +kernel, rfl, by decide +kernel, by decide +kernel⟩
theorem ok_filling (F : FnT K "_law_filling" (top 26) f fd) (T : Fbu P w K mg base) : FnOk P w K mg base CX0 8 f fd ["hand", "book", "own", "numbers", "known"] spFilling := by
  have sc := scFilling
  refine F.ok scFilling (fun vs H Q E h => ?_) (fun cdv A outer s H vs Q E hr h => ?_)
  · obtain ⟨_, _, _, _, _, _, _, _, _, _, _, rfl, _⟩ := h
    rfl
  refine ⟨_, PSs.nox (pss_one (ps_ret (pe_callTy (call_dictP rfl) (by rfl) T.dict (by decide +kernel) (pa_cons (pe_lc (own := [("number", 5)]) (tt := tYes) rfl sc.nd (pi_list (pv 3)) (blkOk_by (N := ["hand", "book", "own", "numbers", "known", "number"]) (sc := defScope (top 26)) (by decide +kernel)) (fun _ _ _ _ _ => (pg_name (i := 5) sc.nd rfl (Or.inl rfl))) (fun _ _ _ _ _ => pts_nil) (fun _ _ _ _ _ => (pe_tup (pa_cons (pv 5) (pa_cons (pe_callH T.h_law_thing hr pass0 (pa_cons (pv 0) (pa_cons (pv 1) (pa_cons (pe_dget (Nat.lt_of_le_of_lt (Nat.add_le_add_left (by decide : 1 ≤ 64) _) hr.units) (pv 2) (pv 5) (fun _ _ => rfl)) (pa_cons pe_int (pa_cons (pv 4) pa_nil)))))) pa_nil))))) pa_nil)))), ?_⟩
  obtain ⟨l, c, b, B, o1, p, ns, v, o, m1, m, rfl, o1l, o1o, own1, os1, pl, po, hp, nl, nd, nm, hh, hb, ok, ow, os, k⟩ := h
  refine ⟨_, rfl, p, rfl, ⟨_, sq_of hp⟩, fun D2 hD2 => ?_⟩
  obtain ⟨d2l, d2c⟩ := hh.new hD2
  have d2o : D2 ≠ o := by
    rcases ow with ⟨_, z, _⟩ | ⟨_, _, _, kvs, z, _⟩
    · rw [z]; exact d2l
    · exact fun zz => by rw [zz, z] at hD2; cases hD2
  have off7 := ow.off hh
  refine lcY (walk_list (xs := ns.map V.int)) (fun i zs G => ∃ (es : List En) (m2 : Int → Option Str), All2 (es.map IsEn) zs G ∧ es.map (·.1) = ns.take i ∧ (∀ x ∈ es, ThOk B 3 x.2.2 ∧ ∀ k ∈ Thg.unkL [x.2.2], m2 k ≠ none) ∧ OwnV l c v o m2 G ∧ OwnS B.lists m2 ∧ Grown m m2 ∧ Exo l o H G ∧ HandC G l c) ?_ (fun _ => rfl) ?_ ?_ ?_
  · exact ⟨[], m, .nil, rfl, nofun, ow.upd d2o, os, Grown.refl m, (Exo.refl l o H).own hD2, hh.own d2l d2c⟩
  · rintro i zs G hi ⟨es, m2, _, _, _, _, _, _, ex, _⟩
    exact sq_of (ex _ _ pl po hp)
  · rintro i u zs G G' hi lz hDl ⟨es, m2, ae, em, th, ow2, os2, gr2, ex, hg⟩ ⟨rfl, hu⟩
    rw [List.length_map] at hi
    rw [List.getElem?_map] at hu
    obtain ⟨n, hn, rfl⟩ := Option.map_eq_some_iff.mp hu
    obtain ⟨kv1, g1, g2, g3, g4⟩ := own1.at fun x q => ex _ _ o1l o1o q
    obtain ⟨s1, hs1⟩ : ∃ s1, m1 n = some s1 := by
      cases q : m1 n with
      | none => exact absurd q (nm n (List.mem_of_getElem? hn))
      | some s1 => exact ⟨s1, rfl⟩
    have gg : DGet G' o1 (.int n) (some (.str s1)) := by
      have z := DGet.k (k := .inl n) g1
      rw [g3 n, hs1] at z
      exact z
    refine ⟨_, rfl, _, rfl, _, rfl, _, rfl, _, rfl, o1, _, rfl, gg, _, rfl, l, c, b, B, s1, 3, v, o, m2, rfl, by omega, fun _ => by omega, hg, hb.mono (ex.stay off7), ok, os1 n s1 hs1, ow2, os2, fun r t m3 H8 ex8 hh8 ow8 os8 gr8 dm8 tv8 th8 => ⟨by show 2 ≤ sizeLine; decide, fun a ha => ?_⟩⟩
    have off2 := ow2.off hg
    have st8 := (ex8.stay off2).trans (Stay.new (x := .tup [.int n, r]) ha)
    have hD8 := (Ex.new (o := .tup [.int n, r]) ha) _ _ (ex8 _ _ d2l d2o hDl)
    refine NxC.of lz (by omega) hD8 ⟨es ++ [(n, r, t)], m3, ?_, ?_, fun x hx => ?_, (ow8.exl (Exl.of (Ex.new ha))).upd d2o, os8, gr2.trans gr8, ((ex.trans ex8).trans (Exo.ex (Ex.new ha))).own hD2, (hh8.mono (Ex.new ha)).own d2l d2c⟩
    · have stD := Stay.lst (x := .lst (zs ++ [.ref a])) hD8
      rw [List.map_append]
      refine All2.app (All2.monT ens_monT (st8.trans stD).tup ae) (.cons ⟨a, rfl, stD.tup _ _ upd_same, tv8.mono ((Stay.new (x := .tup [.int n, r]) ha).trans stD).tup⟩ .nil)
    · rw [List.map_append, em, List.take_succ, hn]
      rfl
    · rcases List.mem_append.mp hx with z | z
      · refine ⟨(th x z).1, fun k hk => ?_⟩
        have := (th x z).2 k hk
        cases q : m2 k with
        | none => exact absurd q this
        | some s2 => rw [gr8 k s2 q]; exact fun z => nomatch z
      · rw [List.mem_singleton.mp z]
        exact ⟨th8, fun k hk => (dm8 k).mpr (.inr hk)⟩
  · rintro zs G lz hDl ⟨es, m2, ae, em, th, ow2, os2, gr2, ex, hg⟩
    rw [List.length_map] at lz em
    rw [List.take_length] at em
    obtain ⟨ps, ez, pr⟩ := en_pairs (K := K) ae
    have nd2 : (es.map (·.1)).Nodup := by rw [em]; exact nd
    have kk := en_key nd2
    refine ⟨D2, ps, enK es, rfl, by rw [← ez]; exact sq_of hDl, pr, fun g hg0 => ?_⟩
    rw [mergeK_new (enK es) [] (by simpa using kk.1), List.nil_append]
    have gn : H g = none := by
      cases q : H g with
      | none => rfl
      | some u =>
        by_cases z1 : g = l
        · obtain ⟨xs, q1⟩ := hg.lst
          rw [← z1, hg0] at q1
          cases q1
        · by_cases z2 : g = o
          · rcases ow2 with ⟨_, z, _⟩ | ⟨_, _, _, kvs, z, _⟩
            · exact absurd (z2.trans z) z1
            · rw [← z2, hg0] at z
              cases z
          · have := ex _ _ z1 z2 q
            rw [hg0] at this
            cases this
    refine k g (enK es) (enF es) m2 _ (ex.trans (Exo.ex (Ex.new hg0))) (hg.mono (Ex.new hg0)) (ow2.exl (Exl.of (Ex.new hg0))) os2 gr2 gn upd_same ((en_fv ae).mono (TupEx.of (Ex.new hg0))) kk (fun n => by rw [← em]; exact enF_dom es n) ?_ (fun n t hf => ?_)
    · unfold enK
      rw [List.length_map, ← em, List.length_map]
    · obtain ⟨x, hx, _, rfl⟩ := enF_mem hf
      exact th x hx
end
end K03
set_option maxHeartbeats 4000000
/-! How long a dict's text is; a dict of things as a datum; repr of data told by relations. -/
namespace LL
open PySem PySem.Spec PyProof.Rows L2 Evl
theorem Lim.dict {n i j N : Nat} {kvs : List (PyData × PyData)} (h : ∀ p ∈ kvs, Lim n i p.1 ∧ Lim n j p.2) (hN : kvs.length ≤ N) : Lim (n + 1) ((i + j + 4) * N + 2) (.dict kvs) := by
  have a1 : PyData.showableKv kvs = true ∧ PyData.depthKv kvs ≤ n ∧ (∀ t ∈ PyData.shownKv kvs, t.length ≤ i + j + 2) ∧ (PyData.shownKv kvs).length = kvs.length := by
    clear hN
    induction kvs with
    | nil => exact ⟨by simp only [PyData.showableKv], by simp only [PyData.depthKv]; omega, by rw [PyData.shownKv_nil]; nofun, by rw [PyData.shownKv_nil]; rfl⟩
    | cons p kvs ih =>
      obtain ⟨k, v⟩ := p
      obtain ⟨h1, h2, h3, h4⟩ := ih fun q hq => h q (List.mem_cons_of_mem _ hq)
      obtain ⟨g1, g2⟩ := h (k, v) List.mem_cons_self
      refine ⟨by simp only [PyData.showableKv, g1.sh, g2.sh, h1, Bool.and_self], by simp only [PyData.depthKv]; have g1d : k.depth ≤ n := g1.dp; have g2d : v.depth ≤ n := g2.dp; omega, ?_, ?_⟩
      · rw [PyData.shownKv_cons]
        intro t ht
        rcases List.mem_cons.mp ht with e | e
        · rw [e, slen, slen]
          have e4 : (": " : Str).length = 2 := by decide
          have b1 := g1.ln
          have b2 := g2.ln
          rw [e4]
          show k.shown.length + 2 + v.shown.length ≤ _
          have b1 : k.shown.length ≤ i := b1
          have b2 : v.shown.length ≤ j := b2
          omega
        · exact h3 t e
      · rw [PyData.shownKv_cons, List.length_cons, h4]
        rfl
  obtain ⟨h1, h2, h3, h4⟩ := a1
  refine ⟨by simp only [PyData.showable, h1], by simp only [PyData.depth]; omega, ?_⟩
  rw [PyData.shown_dict, slen, slen]
  have e1 : ("{" : Str).length = 1 := by decide
  have e2 : ("}" : Str).length = 1 := by decide
  rw [e1, e2]
  have := join_len h3
  rw [h4] at this
  have a2 : (i + j + 4) * kvs.length ≤ (i + j + 4) * N := Nat.mul_le_mul_left _ hN
  have a3 : i + j + 2 + 2 = i + j + 4 := rfl
  rw [a3] at this
  omega
/-- a datum, apart from l -/
def IsD (l : Addr) (D : PyData) (v : V) (H : Hp) : Prop := Dz l H v D
theorem IsD.mono {l : Addr} {D : PyData} {v : V} {H H' : Hp} (e : Ex H H') (h : IsD l D v H) : IsD l D v H' := Dz.mono (Exl.of e) h
theorem pow30b {i : Int} (h : i.natAbs < 10 ^ 30) : Lim 0 31 (.int i) := lim_num h
/-- a dict that keeps things -/
theorem dz_dict {l g : Addr} {H : Hp} {kvs : List (Key × V)} {f : Int → Option Thg} {N Z : Nat} (hl : ∀ xs, H l ≠ some (.tup xs)) (gl : g ≠ l) (hg : H g = some (.dK kvs)) (hf : ∀ n : Int, ∀ v, valV kvs (.inl n) = some v → ∃ t, f n = some t ∧ Tv H v t) (key : KeyI kvs)
    (hs : ∀ p ∈ kvs, ∀ n, p.1 = Sum.inl n → n.natAbs < 10 ^ 30) (ft : ∀ n t, f n = some t → t.Sm ∧ t.dp ≤ 220 ∧ t.sz ≤ Z) (hN : kvs.length ≤ N) : ∃ D, Dz l H (.ref g) (.dict D) ∧ Lim 221 ((31 + 40 * Z + 4) * N + 2) (.dict D) := by
  have go : ∀ kv : List (Key × V), (∀ p ∈ kv, p ∈ kvs) → ∃ ds, Dzs l H (kv.map (·.2)) ds ∧ ∀ p ∈ (kv.map fun p => kD p.1).zip ds, Lim 220 31 p.1 ∧ Lim 220 (40 * Z) p.2 := by
    intro kv
    induction kv with
    | nil => exact fun _ => ⟨[], .nil, by simp⟩
    | cons p kv ih =>
      intro h
      obtain ⟨ds, h1, h2⟩ := ih fun q hq => h q (List.mem_cons_of_mem _ hq)
      have hp := h p List.mem_cons_self
      obtain ⟨n, en⟩ := key.2 p hp
      have hv : valV kvs (.inl n) = some p.2 := by
        have nd := key.1
        clear ih h1 h2 h hN hs hg hf
        induction kvs with
        | nil => cases hp
        | cons q kvs ih =>
          unfold valV
          rw [List.find?_cons]
          rcases List.mem_cons.mp hp with e | e
          · rw [← e, en]
            simp
          · rw [List.map_cons, List.nodup_cons] at nd
            have nq : ¬ q.1 = Sum.inl n := fun z => nd.1 (by rw [z, ← en]; exact List.mem_map.mpr ⟨p, e, rfl⟩)
            rw [decide_eq_false nq]
            exact ih ⟨nd.2, fun r hr => key.2 r (List.mem_cons_of_mem _ hr)⟩ e nd.2
      obtain ⟨t, ft1, tv⟩ := hf n p.2 hv
      obtain ⟨sm, dp, sz⟩ := ft n t ft1
      refine ⟨t.dT :: ds, .cons (tv.dz hl) h1, fun q hq => ?_⟩
      rcases List.mem_cons.mp hq with e | e
      · rw [e]
        show Lim 220 31 (kD p.1) ∧ Lim 220 (40 * Z) t.dT
        rw [en]
        exact ⟨(lim_num (hs p hp n en)).mono (Nat.zero_le _) (Nat.le_refl _), (Thg.lim sm).mono dp (by omega)⟩
      · exact h2 q e
  obtain ⟨ds, h1, h2⟩ := go kvs fun _ h => h
  refine ⟨_, .dic gl hg h1, Lim.dict h2 ?_⟩
  rw [List.length_zip, List.length_map]
  exact Nat.le_trans (Nat.min_le_left _ _) hN
end LL
set_option maxHeartbeats 2000000
/-! What the law asks of one bundle and a filling, of two bundles. -/
namespace K03
open PySem PySem.Spec PyProof.Rows L2 Evl LL
theorem kit_dict {K : PySem.W.Frag} : PySem.W.kitOne K (.type "dict") (.type "dict") = some true := by kernel_rfl
theorem dep_dp : ∀ t : Thg, dep t ≤ t.dp + 1
  | .num _ => by simp [dep, Thg.dp]
  | .word _ => by simp [dep, Thg.dp]
  | .node h xs => by
    have : deps xs ≤ Thg.dpL xs + 1 := go xs
    simp only [dep, Thg.dp]
    omega
where go : ∀ xs : List Thg, deps xs ≤ Thg.dpL xs + 1
  | [] => by simp [deps]
  | x :: xs => by
    have a := dep_dp x
    have b := go xs
    simp only [deps, Thg.dpL]
    omega
theorem deps_dp {M : Nat} {xs : List Thg} (h : ∀ t ∈ xs, t.dp ≤ M) : deps xs ≤ M + 1 := by
  induction xs with
  | nil => simp [deps]
  | cons x xs ih =>
    have a := dep_dp x
    have b := h x List.mem_cons_self
    have c := ih fun t ht => h t (List.mem_cons_of_mem _ ht)
    simp only [deps]
    omega
/-- a tuple of things -/
def IsBun (ts : List Thg) : VP := fun v H => ∃ p us, v = .ref p ∧ H p = some (.tup us) ∧ Tvs H us ts
theorem IsBun.mono {ts : List Thg} {v : V} {H H' : Hp} (e : TupEx H H') (h : IsBun ts v H) : IsBun ts v H' := by
  obtain ⟨p, us, h1, h2, h3⟩ := h
  exact ⟨p, us, h1, e _ _ h2, h3.mono e⟩
def bunD (ts : List Thg) : PyData := .tuple (Thg.dTs ts)
theorem IsBun.dz {ts : List Thg} {v : V} {H : Hp} {l : Addr} (hl : ∀ xs, H l ≠ some (.tup xs)) (h : IsBun ts v H) : Dz l H v (bunD ts) := by
  obtain ⟨p, us, rfl, h2, h3⟩ := h
  exact .tup (fun z => hl us (by rw [← z]; exact h2)) h2 (h3.dz hl)
theorem bun_lim {ts : List Thg} {n M : Nat} (sm : Thg.SmL ts) (dp : ∀ t ∈ ts, t.dp ≤ n) (sz : Thg.szL ts ≤ M) : Lim (n + 1) (40 * M + 3) (bunD ts) := by
  obtain ⟨h1, h2, h3⟩ := Thg.limL sm
  have h4 := dpL_le dp
  refine ⟨by unfold bunD; simp only [PyData.showable]; exact h1, by unfold bunD; simp only [PyData.depth]; omega, ?_⟩
  unfold bunD
  rw [PyData.shown_tuple, slen, slen]
  have e1 : ("(" : Str).length = 1 := by decide
  have e2 : (Str.ofString (if ((Thg.dTs ts).length == 1) = true then ",)" else ")" : String)).length ≤ 2 := by
    split
    · show (Str.ofString ",)").length ≤ 2; decide
    · show (Str.ofString ")").length ≤ 2; decide
  have e3 := join_sum (PyData.shownAll (Thg.dTs ts))
  rw [PyData.shownAll_length, dTs_len] at e3
  rw [e1]
  omega
section
variable {σ : L2.St} {H : Hp} {te : TE} {v : V} {l : Addr} {D : PyData} {n k i j : Nat} {R : VP}
/-- repr of a datum told by what it is -/
theorem ev_repD (hl : ∃ o, H l = some o ∧ ∀ xs, o ≠ .tup xs) (h : EvX te σ H R) (hR : ∀ v H', Ex H H' → (∀ xs, H' l ≠ some (.tup xs)) → R v H' → Dz l H' v D) (nb : notNB D = true) (L : Lim n k D) (hn : n ≤ 250) (hk : k ≤ 16777216) : Ev (tCB rReprD (tCons te tNil)) σ H (.str D.shown) := fun H1 e Q q =>
  h H1 e _ fun v H2 e2 r => by
    obtain ⟨o, ho, no⟩ := hl
    have h2 := (e.trans e2) _ _ ho
    exact ⟨l, v, D, rfl, hR v H2 (e.trans e2) (fun xs z => no xs (by rw [h2] at z; exact Option.some.inj z)) r, nb, L.sh, Nat.le_trans L.dp hn, Nat.le_trans L.ln (by rw [sizeLine_eq]; exact hk), q H2 e2⟩
/-- a pair of slots as a datum -/
theorem x_two {d1 d2 : PyData} {u : V} (h1 : σ[i]? = some (some v)) (h2 : σ[j]? = some (some u)) (hl : ∃ o, H l = some o ∧ ∀ xs, o ≠ .tup xs) (a : Dz l H v d1) (b : Dz l H u d2) : EvX (tTup (tCons (tVar i) (tCons (tVar j) tNil))) σ H (fun x H' => Dz l H' x (.tuple [d1, d2])) := fun H1 e Q q =>
  ⟨v, h1, u, h2, by show 2 ≤ sizeLine; decide, fun p hp => by
    obtain ⟨o, ho, no⟩ := hl
    have ex := e.trans (Ex.new (o := .tup [v, u]) hp)
    exact q _ _ (Ex.new hp) (.tup (fun z => by rw [z, e _ _ ho] at hp; cases hp) upd_same (.cons (a.mono (Exl.of ex)) (.cons (b.mono (Exl.of ex)) .nil)))⟩
end
/-- the unknowns are no more than N -/
def Few (ts : List Thg) (N : Nat) : Prop := ∀ l : List Int, l.Nodup → (∀ n ∈ l, n ∈ Thg.unkL ts) → l.length ≤ N
theorem Few.of_len {ts : List Thg} {N : Nat} (h : (Thg.unkL ts).length ≤ N) : Few ts N := fun l nd hl => Nat.le_trans (nodup_le l _ nd hl) h
theorem Few.of_nc {W : Str → Prop} {ts : List Thg} (h : Thg.NcL W ts) : Few ts 1000 := fun l nd hl => by
  have := nodup_le l (rgI 0 1000) nd fun n hn => rgI_mem.mpr (by have := h.unk_bd n (hl n hn); omega)
  unfold rgI at this
  rw [List.length_map, List.length_range] at this
  exact this
/-- a filling that leads from ts to os, kept in a dict -/
theorem keeps_of {W : Str → Prop} {H : Hp} {g : Addr} {kvs : List (Key × V)} {f : Int → Option Thg} {ts os : List Thg} {N Z : Nat} (nt : Thg.NcL W ts) (no : Thg.NcL W os) (fw : Few ts N) (hN : N ≤ 1000) (hZ : N * (40 * Z + 80) ≤ 16000000) (sz : ∀ t ∈ os, t.sz ≤ Z) (dp : ∀ t ∈ os, t.dp ≤ 220) (zs : ∀ t ∈ os, t.sz ≤ 2400)
    (hg : H g = some (.dK kvs)) (fv : Fv H kvs f) (key : KeyI kvs) (ld : ∀ G, (∀ n t, f n = some t → G n = t) → Thg.subL (all_ G) ts = os) (dm : ∀ n, n ∈ Thg.unkL ts ↔ f n ≠ none) : Keeps H g kvs f := by
  have part : ∀ n t, f n = some t → t.sz ≤ Z ∧ t.dp ≤ 220 ∧ t.sz ≤ 2400 ∧ t.Nc W := by
    intro n t hf
    have hn : n ∈ Thg.unkL ts := (dm n).mpr (by rw [hf]; exact fun z => nomatch z)
    have e := ld (fun n => (f n).getD (.num 0)) (fun n t h => by simp [h])
    have : ∃ u ∈ ts, n ∈ Thg.unkL [u] := by
      clear e dm ld
      induction ts with
      | nil => simp [Thg.unkL, Thg.preL] at hn
      | cons u ts ih =>
        rw [Thg.unkL_cons] at hn
        rcases List.mem_append.mp hn with q | q
        · exact ⟨u, List.mem_cons_self, q⟩
        · obtain ⟨u', h1, h2⟩ := ih nt.2 (fun l nd hl => fw l nd fun n hn => by rw [Thg.unkL_cons]; exact List.mem_append_right _ (hl n hn)) q
          exact ⟨u', List.mem_cons_of_mem _ h1, h2⟩
    obtain ⟨u, hu, hnu⟩ := this
    have ho : Thg.sub (all_ fun n => (f n).getD (.num 0)) u ∈ os := by
      rw [← e, subL_map]
      exact List.mem_map.mpr ⟨u, hu, rfl⟩
    obtain ⟨p1, p2⟩ := Thg.sub_part (nt.mem u hu) (f := all_ fun n => (f n).getD (.num 0)) n hnu t (by simp [hf])
    exact ⟨Nat.le_trans p1 (sz _ ho), Nat.le_trans p2 (dp _ ho), Nat.le_trans p1 (zs _ ho), by
      have := Thg.sub_in (nt.mem u hu) (f := all_ fun n => (f n).getD (.num 0)) n hnu t (by simp [hf]) (no.mem _ ho)
      exact this⟩
  obtain ⟨ns, hns⟩ := nums_of key.2
  have nd : ns.Nodup := by
    have := key.1
    rw [hns] at this
    exact List.Pairwise.of_map Sum.inl (fun a b h e => h (by rw [e])) this
  have nu : ∀ n ∈ ns, n ∈ Thg.unkL ts := fun n hn => by
    obtain ⟨v, hv⟩ := (mem_key hns).mp hn
    obtain ⟨t, ft, _⟩ := (fv n).1 v hv
    exact (dm n).mpr (by rw [ft]; exact fun z => nomatch z)
  refine ⟨hg, fv, key, ⟨N, Z, ?_, hN, hZ, fun n t hf => (part n t hf).1⟩, fun p hp n en => ?_, fun n t hf => ⟨(part n t hf).2.2.2.pl, (part n t hf).2.2.2.sm, (part n t hf).2.1, (part n t hf).2.2.1⟩⟩
  · have := congrArg List.length hns
    rw [List.length_map, List.length_map] at this
    rw [this]
    exact fw ns nd nu
  · have : n ∈ ns := by
      have : (Sum.inl n : Key) ∈ ns.map Sum.inl := by rw [← hns, ← en]; exact List.mem_map.mpr ⟨p, hp, rfl⟩
      obtain ⟨m, hm, e⟩ := List.mem_map.mp this
      cases e
      exact hm
    have := nt.unk_bd n (nu n this)
    exact Nat.lt_of_lt_of_le (show n.natAbs < 1000 by omega) (by decide)
end K03
set_option maxHeartbeats 2000000
namespace K03
open PySem PySem.Spec PyProof.Rows L2 Evl LL
def spPutR : Sp := fun vs H Q _ => ∃ (l b g : Addr) (xs us : List V) (ts : List Thg) (kvs : List (Key × V)) (f : Int → Option Thg) (B : Bk), vs = [.ref l, .ref b, .ref g] ∧ H l = some (.lst xs) ∧ H b = some (.tup us) ∧ Tvs H us ts ∧ ts.length ≤ 4 ∧ (∀ t ∈ ts, ThOk B 3 t) ∧ H g = some (.dK kvs) ∧ Fv H kvs f ∧ KeyI kvs ∧ kvs.length ≤ 160 ∧
  (∀ n t, f n = some t → ThOk B 3 t) ∧ (∀ p ∈ kvs, ∀ n, p.1 = Sum.inl n → n.natAbs < 10 ^ 30) ∧ ∀ H', Ex H H' → Q (.bl true) H'
structure Frr (P : Program) (w : World) (K : PySem.W.Frag) (mg : Str → Option Value) (base : Heap) : Prop where
  repr : mg "repr" = none
  isinstance : mg "isinstance" = none
  dict : mg "dict" = none
  sys : Sys K
  hfilled : Has P w K mg base CX0 "filled" 3 ["bundle", "filling"] spFilled
  h_law_filled : Has P w K mg base CX0 "_law_filled" 211 ["bundle", "filling"] spLFilled
  hmatched : Has P w K mg base CX0 "matched" 3 ["bundle", "other"] spMatched
  h_law_matched : HasG P w K mg base CX0 "_law_matched" 5 ["bundle", "other"] spLMat
  h_law_shown : HasG P w K mg base CX0 "_law_shown" 5 ["filling"] spShown
theorem szB3 : szB 3 = 67 := rfl
section
variable {P : Program} {w : World} {K : PySem.W.Frag} {mg : Str → Option Value} {base : Heap} {f : Addr} {fd : FuncData}
theorem scPutR : FnScope ["hand", "bundle", "filling", "kept"] ["hand", "bundle", "filling"] (defScope (top 27)) := ⟨rfl, rfl, rfl, by decide +kernel, rfl, by decide +kernel, by decide +kernel⟩
theorem ok_put_right (F : FnT K "_law_is_put_right" (top 27) f fd) (T : Frr P w K mg base) : FnG P w K mg base CX0 212 f fd ["hand", "bundle", "filling"] spPutR := by
  have sc := scPutR
  refine fnG_of F scPutR (fun {vs H Q E} h => ?_) (fun cdv A outer s H vs Q E hg hr h => ?_)
  · obtain ⟨_, _, _, _, _, _, _, _, _, rfl, _⟩ := h
    rfl
  have hG := guards_deeper (env := envOfC "_law_is_put_right" (defScope (top 27)) s.heap.objs.size f cdv) hg
  have hu := hr.un
  have hu : (A.deeper (envOfC "_law_is_put_right" (defScope (top 27)) s.heap.objs.size f cdv)).units + 252 < cLine := by omega
  refine ⟨_, PSs.nox (pss_cons (ps_set (i := 3) sc.nd rfl (Or.inl rfl) (pe_callB (call_reprD T.sys hG hu) (by rfl) T.repr (by decide +kernel) (pa_cons (pe_tup (pa_cons (pv 1) (pa_cons (pv 2) pa_nil))) pa_nil)))
      (pss_one (ps_ret (pe_and (pe_cmpR op_eq (pe_callB (call_reprD T.sys hG hu) (by rfl) T.repr (by decide +kernel) (pa_cons (pe_callH T.hfilled hr pass0 (pa_cons (pv 1) (pa_cons (pv 2) pa_nil))) pa_nil)) (pe_callB (call_reprD T.sys hG hu) (by rfl) T.repr (by decide +kernel) (pa_cons (pe_callH T.h_law_filled hr pass0 (pa_cons (pv 1) (pa_cons (pv 2) pa_nil))) pa_nil)) (nomark _)) (pe_one (pe_cmpR op_eq (pe_callB (call_reprD T.sys hG hu) (by rfl) T.repr (by decide +kernel) (pa_cons (pe_tup (pa_cons (pv 1) (pa_cons (pv 2) pa_nil))) pa_nil)) (pv 3) (nomark _))))))), ?_⟩
  obtain ⟨l, b, g, xs, us, ts, kvs, f, B, rfl, hl0, hb, tv, tl, tok, hg0, fv, key, kl, fok, ks, k⟩ := h
  have hl : ∃ o, H l = some o ∧ ∀ xs, o ≠ .tup xs := ⟨_, hl0, nofun⟩
  have hlt : ∀ xs, H l ≠ some (.tup xs) := fun xs z => by rw [hl0] at z; cases z
  have nc : Thg.NcL (BW B) ts := Thg.NcL.of fun t ht => (tok t ht).nc
  have ncs : Thg.NcL (BW B) (Thg.subL f ts) := Thg.NcL.sub (fun n t h => (fok n t h).nc) nc
  have sz1 : Thg.szL ts ≤ 268 := by
    have := szL_le (M := 67) (ts := ts) fun t ht => (tok t ht).sz
    have a : 67 * ts.length ≤ 67 * 4 := Nat.mul_le_mul_left _ tl
    omega
  have sz2 : Thg.szL (Thg.subL f ts) ≤ 9000 := by
    have := Thg.subL_sz (M := 67) (by decide) (fun n t h => (fok n t h).sz) ts
    have a : Thg.szL ts * 67 ≤ 268 * 67 := Nat.mul_le_mul_right _ sz1
    omega
  have pl : (Thg.preL ts).length ≤ 268 := Nat.le_trans (Thg.preL_sz ts) sz1
  have dp2 : ∀ t ∈ Thg.subL f ts, t.dp ≤ 8 := by
    rw [subL_map]
    intro t ht
    obtain ⟨u, hu, rfl⟩ := List.mem_map.mp ht
    have a := Thg.sub_dp (M := 4) (fun n t h => (fok n t h).dp) u
    have b := (tok u hu).dp
    omega
  have db : Dz l H (.ref b) (bunD ts) := IsBun.dz hlt ⟨b, us, rfl, hb, tv⟩
  obtain ⟨Dd, dd, Ld⟩ := dz_dict (N := 160) (Z := 67) hlt (fun z => by rw [z, hl0] at hg0; cases hg0) hg0 (fun n v hv => (fv n).1 v hv) key ks (fun n t h => ⟨(fok n t h).nc.sm, Nat.le_trans (fok n t h).dp (by decide), (fok n t h).sz⟩) kl
  have Lb : Lim 221 10723 (bunD ts) := (bun_lim (n := 4) (M := 268) nc.sm (fun t ht => (tok t ht).dp) sz1).mono (by decide) (by decide)
  have L := Lim.pair Lb Ld
  have Ls : Lim 9 360003 (bunD (Thg.subL f ts)) := bun_lim (n := 8) (M := 9000) ncs.sm dp2 sz2
  refine q_asg (ev_repD (n := 222) hl (x_two rfl rfl hl db dd) (fun v H' _ _ r => r) rfl L (by decide) (by decide)) fun H1 e1 => ?_
  have hl1 : ∃ o, H1 l = some o ∧ ∀ xs, o ≠ .tup xs := ⟨_, e1 _ _ hl0, nofun⟩
  refine s_ret (v := .bl true) (ev_is (ev_andV (a := true) (b := true) (ev_is (ev_op (ev_repD (R := IsBun (Thg.subL f ts)) hl1 ?_ (fun v H' _ hl r => r.dz hl) rfl Ls (by decide) (by decide)) (ev_repD (R := IsBun (Thg.subL f ts)) hl1 ?_ (fun v H' _ hl r => r.dz hl) rfl Ls (by decide) (by decide)) (rv_eq rfl)) (by simp))
    (fun _ => ev_is (ev_op (ev_repD (n := 222) hl1 (x_two rfl rfl hl1 (db.mono (Exl.of e1)) (dd.mono (Exl.of e1))) (fun v H' _ _ r => r) rfl L (by decide) (by decide)) (ev_var rfl) (rv_eq rfl)) (by simp))) rfl) fun H2 e2 => k H2 (e1.trans e2)
  · exact fun H2 e2 Q2 q2 => ⟨_, rfl, _, rfl, b, g, us, ts, kvs, f, rfl, (e1.trans e2) _ _ hb, tv.mono (TupEx.of (e1.trans e2)), nc.wf, by omega, (e1.trans e2) _ _ hg0, fv.mono (TupEx.of (e1.trans e2)), fun p us' H3 e3 h3 t3 => q2 _ H3 e3 ⟨p, us', rfl, h3, t3⟩⟩
  · exact fun H2 e2 Q2 q2 => ⟨_, rfl, _, rfl, b, g, us, ts, kvs, f, rfl, (e1.trans e2) _ _ hb, tv.mono (TupEx.of (e1.trans e2)), nc.wf, Nat.le_trans (deps_dp fun t ht => (tok t ht).dp) (by decide), by omega, (e1.trans e2) _ _ hg0, fv.mono (TupEx.of (e1.trans e2)), fun p us' H3 e3 h3 t3 => q2 _ H3 e3 ⟨p, us', rfl, h3, t3⟩⟩
end
end K03
set_option maxHeartbeats 2000000
namespace K03
open PySem PySem.Spec PyProof.Rows L2 Evl LL
/-- two bundles that can be matched and shown -/
structure MatR (H : Hp) (b o : Addr) (us zs : List V) (ts os : List Thg) (W : Str → Prop) (N Z : Nat) : Prop where
  hb : H b = some (.tup us)
  ho : H o = some (.tup zs)
  tv : Tvs H us ts
  tz : Tvs H zs os
  nt : Thg.NcL W ts
  no : Thg.NcL W os
  len : ts.length = os.length
  ot : ∀ t ∈ ts, t.dp ≤ 219 ∧ t.sz ≤ 2400
  oo : ∀ t ∈ os, t.dp ≤ 219 ∧ t.sz ≤ 2400
  st : Thg.szL ts ≤ 10000
  so : Thg.szL os ≤ 10000
  few : Few ts N
  n1 : N ≤ 1000
  nz : N * (40 * Z + 80) ≤ 16000000
  z : ∀ t ∈ os, t.sz ≤ Z
theorem MatR.mono {H H' : Hp} {b o : Addr} {us zs : List V} {ts os : List Thg} {W : Str → Prop} {N Z : Nat} (e : TupEx H H') (m : MatR H b o us zs ts os W N Z) : MatR H' b o us zs ts os W N Z :=
  { m with hb := e _ _ m.hb, ho := e _ _ m.ho, tv := m.tv.mono e, tz := m.tz.mono e }
theorem MatR.gt {H : Hp} {b o : Addr} {us zs : List V} {ts os : List Thg} {W : Str → Prop} {N Z : Nat} (m : MatR H b o us zs ts os W N Z) : (∀ t ∈ ts, Gd t) ∧ ∀ t ∈ os, Gd t :=
  ⟨fun t ht => ⟨(m.nt.mem t ht).pl, (m.nt.mem t ht).sm, Nat.le_trans (m.ot t ht).1 (by decide), (m.ot t ht).2⟩, fun t ht => ⟨(m.no.mem t ht).pl, (m.no.mem t ht).sm, Nat.le_trans (m.oo t ht).1 (by decide), (m.oo t ht).2⟩⟩
/-- what leads from the one to the other -/
def Leads (ts os : List Thg) (f : Int → Option Thg) : Prop := (∀ G, (∀ n t, f n = some t → G n = t) → Thg.subL (all_ G) ts = os) ∧ ∀ n, n ∈ Thg.unkL ts ↔ f n ≠ none
theorem Leads.one {ts os : List Thg} {f g : Int → Option Thg} (h : Leads ts os f) (k : Leads ts os g) : f = g := funext (fill_one h.1 h.2 k.1 k.2)
theorem Leads.subf {ts os : List Thg} {f : Int → Option Thg} (h : Leads ts os f) : Thg.subL f ts = os := by
  have e := h.1 (fun n => (f n).getD (.num 0)) (fun n t h => by simp [h])
  rw [← e]
  exact Thg.subL_cong ts fun n hn => by
    obtain ⟨t, ht⟩ := Option.ne_none_iff_exists'.mp ((h.2 n).mp hn)
    show f n = some ((f n).getD (.num 0))
    rw [ht]
    rfl
def NoLead (ts os : List Thg) : Prop := ∀ G, Thg.subL (all_ G) ts ≠ os
theorem NoLead.not {ts os : List Thg} {f : Int → Option Thg} (h : NoLead ts os) (k : Leads ts os f) : False := h (fun n => (f n).getD (.num 0)) (k.1 _ fun n t h => by simp [h])
section
variable {σ : L2.St} {H : Hp} {te ta : TE} {v : V} {b o : Addr} {us zs : List V} {ts os : List Thg} {W : Str → Prop} {N Z i j : Nat} {f : Int → Option Thg} {E : XK} {ns : List Int}
def IsKeep (H0 : Hp) (f : Int → Option Thg) : VP := fun v H => ∃ g kvs, v = .ref g ∧ H0 g = none ∧ Keeps H g kvs f
theorem x_matched (h1 : σ[i]? = some (some (.ref b))) (h2 : σ[j]? = some (some (.ref o))) (m : MatR H b o us zs ts os W N Z) (ld : Leads ts os f) : EvX (tCall spMatched [] E (tCons (tVar i) (tCons (tVar j) tNil))) σ H (IsKeep H f) := fun H1 e Q q => by
  have m1 := m.mono (TupEx.of e)
  refine ⟨_, h1, _, h2, b, o, us, zs, ts, os, rfl, m1.hb, m1.ho, m1.tv, m1.tz, m1.nt.wf, m1.no.wf, m1.len, ?_, ?_, fun H2 e2 hn => (NoLead.not hn ld).elim, fun g kvs f2 H2 hg0 e2 hg fv key ld2 dm _ => ?_⟩
  · exact Nat.le_trans (Thg.preL_sz ts) (Nat.le_trans m.st (by decide))
  · exact Nat.le_trans (Thg.preL_sz os) (Nat.le_trans m.so (by decide))
  · have e1 := Leads.one (f := f) (g := f2) ld ⟨ld2, dm⟩
    subst e1
    exact q _ H2 e2 ⟨g, kvs, rfl, fresh_back e hg0, keeps_of m.nt m.no m.few m.n1 m.nz m.z (fun t ht => Nat.le_trans (m.oo t ht).1 (by decide)) (fun t ht => (m.oo t ht).2) hg fv key ld2 dm⟩
theorem ev_matchedN (h1 : σ[i]? = some (some (.ref b))) (h2 : σ[j]? = some (some (.ref o))) (m : MatR H b o us zs ts os W N Z) (hn : NoLead ts os) : Ev (tCall spMatched [] E (tCons (tVar i) (tCons (tVar j) tNil))) σ H .non := fun H1 e Q q => by
  have m1 := m.mono (TupEx.of e)
  refine ⟨_, h1, _, h2, b, o, us, zs, ts, os, rfl, m1.hb, m1.ho, m1.tv, m1.tz, m1.nt.wf, m1.no.wf, m1.len, ?_, ?_, fun H2 e2 _ => q H2 e2, fun g kvs f2 H2 hg0 e2 hg fv key ld2 dm _ => (NoLead.not hn ⟨ld2, dm⟩).elim⟩
  · exact Nat.le_trans (Thg.preL_sz ts) (Nat.le_trans m.st (by decide))
  · exact Nat.le_trans (Thg.preL_sz os) (Nat.le_trans m.so (by decide))
theorem numbers_ex {g : Addr} {kvs : List (Key × V)} (k : Keeps H g kvs f) : ∃ ns, Numbers f ns := by
  obtain ⟨ns, hns⟩ := nums_of k.key.2
  have nd : ns.Nodup := by
    have := k.key.1
    rw [hns] at this
    exact List.Pairwise.of_map Sum.inl (fun a b h e => h (by rw [e])) this
  have pm := List.mergeSort_perm ns (fun a b => decide (a ≤ b))
  refine ⟨ns.mergeSort (fun a b => decide (a ≤ b)), pm.nodup_iff.mpr nd, ?_, fun n => ?_⟩
  · have := List.pairwise_mergeSort (le := fun a b : Int => decide (a ≤ b)) (fun a b c h1 h2 => by simp at *; omega) (fun a b => by simp; omega) ns
    exact this.imp fun h => by simpa using h
  · rw [pm.mem_iff, mem_key hns]
    constructor
    · rintro ⟨v, hv⟩
      obtain ⟨t, h1, _⟩ := (k.fv n).1 v hv
      rw [h1]
      exact fun z => nomatch z
    · intro h
      cases hv : valV kvs (.inl n) with
      | some v => exact ⟨v, rfl⟩
      | none => exact absurd ((k.fv n).2 hv) h
theorem ev_shown {R : VP} (nb : Numbers f ns) (h : EvX te σ H R) (hR : ∀ v H', Ex H H' → R v H' → ∃ g kvs, v = .ref g ∧ Keeps H' g kvs f) : Ev (tCall spShown [] E (tCons te tNil)) σ H (.str (shF f ns)) := fun H1 e Q q =>
  h H1 e _ fun v H2 e2 r => by
    obtain ⟨g, kvs, rfl, k⟩ := hR v H2 (e.trans e2) r
    refine .inr ⟨g, kvs, f, rfl, k, fun ms H3 e3 nb2 => ?_⟩
    have := sort_one nb2.1 nb.1 nb2.2.1 nb.2.1 fun n => (nb2.2.2 n).trans (nb.2.2 n).symm
    rw [this]
    exact q H3 (e2.trans e3)
end
def spMatR : Sp := fun vs H Q _ => ∃ (l b o : Addr) (xs us zs : List V) (ts os : List Thg) (W : Str → Prop) (N Z : Nat), vs = [.ref b, .ref o] ∧ H l = some (.lst xs) ∧ MatR H b o us zs ts os W N Z ∧ ∀ H', Ex H H' → Q (.bl true) H'
section
variable {P : Program} {w : World} {K : PySem.W.Frag} {mg : Str → Option Value} {base : Heap} {f : Addr} {fd : FuncData}
theorem scMatR : FnScope ["bundle", "other", "told", "due", "kept"] ["bundle", "other"] (defScope (top 28)) := ⟨rfl, rfl, rfl, by decide +kernel, rfl, by decide +kernel, by decide +kernel⟩
theorem ok_matched_right (F : FnT K "_law_is_matched_right" (top 28) f fd) (T : Frr P w K mg base) : FnG P w K mg base CX0 7 f fd ["bundle", "other"] spMatR := by
  have sc := scMatR
  refine fnG_of F scMatR (fun {vs H Q E} h => ?_) (fun cdv A outer s H vs Q E hg hr h => ?_)
  · obtain ⟨_, _, _, _, _, _, _, _, _, _, _, rfl, _⟩ := h
    rfl
  have hG := guards_deeper (env := envOfC "_law_is_matched_right" (defScope (top 28)) s.heap.objs.size f cdv) hg
  have hu := hr.un
  have hu : (A.deeper (envOfC "_law_is_matched_right" (defScope (top 28)) s.heap.objs.size f cdv)).units + 252 < cLine := by omega
  refine ⟨_, PSs.nox (pss_cons (ps_par (i := 3) (j := 4) (by rfl) sc.nd rfl rfl (by decide) rfl rfl (pa_cons (pe_callHG T.h_law_matched hG hr pass0 (pa_cons (pv 0) (pa_cons (pv 1) pa_nil))) (pa_cons (pe_callB (call_reprD T.sys hG hu) (by rfl) T.repr (by decide +kernel) (pa_cons (pe_tup (pa_cons (pv 0) (pa_cons (pv 1) pa_nil))) pa_nil)) pa_nil)) (by rfl))
      (pss_cons (ps_set (i := 2) sc.nd rfl (Or.inl rfl) (pe_callH T.hmatched hr pass0 (pa_cons (pv 0) (pa_cons (pv 1) pa_nil))))
      (pss_cons (ps_if (pt_cmpR op_isN (pv 3) pe_non (nomark _)) (pss_one (ps_ret (pe_and (pe_cmpR op_isN (pv 2) pe_non (nomark _)) (pe_one (pe_cmpR op_eq (pe_callB (call_reprD T.sys hG hu) (by rfl) T.repr (by decide +kernel) (pa_cons (pe_tup (pa_cons (pv 0) (pa_cons (pv 1) pa_nil))) pa_nil)) (pv 4) (nomark _)))))) pss_nil)
      (pss_cons (ps_if (PW.pt (pw_or (pt_not (pt_val (pe_callB call_isi (by rfl) T.isinstance (by decide +kernel) (pa_cons (pv 2) (pa_cons (pe_bltn (v := .ty "dict") (u := .type "dict") (by rfl) T.dict (by decide +kernel) rfl) pa_nil))))) (pw_or (pt_cmpR op_ne (pe_callHG T.h_law_shown hG hr pass0 (pa_cons (pv 2) pa_nil)) (pe_callHG T.h_law_shown hG hr pass0 (pa_cons (pv 3) pa_nil)) (nomark _)) (pw_or1 (pt_cmpR op_ne (pe_callB (call_reprD T.sys hG hu) (by rfl) T.repr (by decide +kernel) (pa_cons (pe_callH T.hfilled hr pass0 (pa_cons (pv 0) (pa_cons (pv 2) pa_nil))) pa_nil)) (pe_callB (call_reprD T.sys hG hu) (by rfl) T.repr (by decide +kernel) (pa_cons (pv 1) pa_nil)) (nomark _)))))) (pss_one (ps_ret pe_bl)) pss_nil)
      (pss_cons (ps_expr (pe_bm0 PySem.F.plainAttrs_dict PySem.F.slot_dict_clear PySem.F.type_dict_clear mtd_clear (pv 2)))
      (pss_cons (ps_asg pe_str (pg_sub (pv 2) pe_int (set_dict (Nat.lt_of_le_of_lt (Nat.add_le_add_left (by decide : 1 ≤ 64) _) hr.units))))
      (pss_one (ps_ret (pe_and (pe_cmpR op_eq (pe_callHG T.h_law_shown hG hr pass0 (pa_cons (pe_callH T.hmatched hr pass0 (pa_cons (pv 0) (pa_cons (pv 1) pa_nil))) pa_nil)) (pe_callHG T.h_law_shown hG hr pass0 (pa_cons (pv 3) pa_nil)) (nomark _)) (pe_one (pe_cmpR op_eq (pe_callB (call_reprD T.sys hG hu) (by rfl) T.repr (by decide +kernel) (pa_cons (pe_tup (pa_cons (pv 0) (pa_cons (pv 1) pa_nil))) pa_nil)) (pv 4) (nomark _)))))))))))), ?_⟩
  obtain ⟨l, b, o, xs, us, zs, ts, os, W, N, Z, rfl, hl0, m, k⟩ := h
  have hl : ∀ {H1}, Ex H H1 → ∃ o, H1 l = some o ∧ ∀ xs, o ≠ .tup xs := fun e => ⟨_, e _ _ hl0, nofun⟩
  have hlt : ∀ {H1}, Ex H H1 → ∀ xs, H1 l ≠ some (.tup xs) := fun e xs z => by rw [e _ _ hl0] at z; cases z
  have Lb : Lim 220 400003 (bunD ts) := bun_lim (n := 219) (M := 10000) m.nt.sm (fun t ht => (m.ot t ht).1) m.st
  have Lo : Lim 220 400003 (bunD os) := bun_lim (n := 219) (M := 10000) m.no.sm (fun t ht => (m.oo t ht).1) m.so
  have L := Lim.pair Lb Lo
  have db : ∀ {H1}, Ex H H1 → Dz l H1 (.ref b) (bunD ts) := fun e => IsBun.dz (hlt e) ⟨b, us, rfl, (m.mono (TupEx.of e)).hb, (m.mono (TupEx.of e)).tv⟩
  have do_ : ∀ {H1}, Ex H H1 → Dz l H1 (.ref o) (bunD os) := fun e => IsBun.dz (hlt e) ⟨o, zs, rfl, (m.mono (TupEx.of e)).ho, (m.mono (TupEx.of e)).tz⟩
  have rep : ∀ {σ : L2.St} {H1 : Hp}, Ex H H1 → σ[0]? = some (some (.ref b)) → σ[1]? = some (some (.ref o)) → Ev (tCB rReprD (tCons (tTup (tCons (tVar 0) (tCons (tVar 1) tNil))) tNil)) σ H1 (.str (PyData.tuple [bunD ts, bunD os]).shown) := fun e h0 h1 => ev_repD (n := 221) (hl e) (x_two h0 h1 (hl e) (db e) (do_ e)) (fun v H' _ _ r => r) rfl L (by decide) (by decide)
  refine ⟨_, rfl, _, rfl, b, o, us, zs, ts, os, rfl, m.hb, m.ho, m.tv, m.tz, m.nt.wf, m.no.wf, m.gt.1, m.gt.2, m.len, Nat.le_trans (Thg.preL_sz ts) (Nat.le_trans m.st (by decide)), Nat.le_trans (Thg.preL_sz os) (Nat.le_trans m.so (by decide)), fun H1 e1 hn => ?_, fun g kvs f1 H1 e1 hg1 fv key ld1 dm _ => ?_⟩
  · refine rep e1 rfl rfl H1 (Ex.refl H1) _ fun H2 e2 => ⟨_, _, rfl, ?_⟩
    dsimp only
    have m2 := m.mono (TupEx.of (e1.trans e2))
    refine q_asg (ev_matchedN rfl rfl m2 hn) fun H3 e3 => ?_
    refine q_when (b := true) (et_is (et_test (ev_op (ev_var rfl) ev_c (fun H1 _ Q q => ⟨rfl, q H1 (Ex.refl H1)⟩))) (by simp)) (fun _ H4 e4 => ?_) (fun z => nomatch z)
    have e04 := ((e1.trans e2).trans e3).trans e4
    exact s_ret (v := .bl true) (ev_is (ev_andV (a := true) (b := true) (ev_is (ev_op (ev_var rfl) ev_c (fun H1 _ Q q => ⟨rfl, q H1 (Ex.refl H1)⟩)) (by simp)) (fun _ => ev_is (ev_op (rep e04 rfl rfl) (ev_var rfl) (rv_eq rfl)) (by simp))) rfl) fun H5 e5 => k H5 (e04.trans e5)
  · have ld : Leads ts os f1 := ⟨ld1, dm⟩
    have kp1 : Keeps H1 g kvs f1 := keeps_of m.nt m.no m.few m.n1 m.nz m.z (fun t ht => Nat.le_trans (m.oo t ht).1 (by decide)) (fun t ht => (m.oo t ht).2) hg1 fv key ld1 dm
    obtain ⟨ns, nb⟩ := numbers_ex kp1
    refine rep e1 rfl rfl H1 (Ex.refl H1) _ fun H2 e2 => ⟨_, _, rfl, ?_⟩
    dsimp only
    have m2 := m.mono (TupEx.of (e1.trans e2))
    refine q_asgX (x_matched rfl rfl m2 ld) fun v H3 e3 h3 => ?_
    obtain ⟨g2, kvs2, rfl, hg20, kp2⟩ := h3
    have gg : g ≠ g2 := fun z => by rw [← z, (kp1.mono e2).at_] at hg20; cases hg20
    refine q_when (b := false) (et_is (et_test (ev_op (ev_var rfl) ev_c (fun H1 _ Q q => ⟨rfl, q H1 (Ex.refl H1)⟩))) (by simp)) (fun z => nomatch z) (fun _ H4 e4 => ?_)
    have e04 := ((e1.trans e2).trans e3).trans e4
    have kp14 := ((kp1.mono e2).mono e3).mono e4
    have kp24 := kp2.mono e4
    have m4 := m.mono (TupEx.of e04)
    refine q_when (b := false) (et_is (et_or (a := false) (b := false) (et_is (et_not (a := true) (et_B (ev_cb (ea_cons (ev_var rfl) (ea_cons ev_c ea_nil)) fun H1 e1 Q q => ⟨_, _, _, _, _, rfl, .ty _, .base (.dK (e1 _ _ kp24.at_)), kit_dict, q H1 (Ex.refl H1)⟩))) rfl) (fun _ => et_or (a := false) (b := false) ?_ (fun _ => ?_))) rfl) (fun z => nomatch z) (fun _ H5 e5 => ?_)
    · exact et_is (et_test (ev_op (ev_shown nb (x_of (ev_var rfl)) (fun v H' e' hv => ⟨g2, kvs2, hv, kp24.mono e'⟩)) (ev_shown nb (x_of (ev_var rfl)) (fun v H' e' hv => ⟨g, kvs, hv, kp14.mono e'⟩)) (rv_ne rfl))) (by simp)
    · refine et_is (et_test (ev_op (ev_repD (R := IsBun os) (hl e04) ?_ (fun v H' _ hl r => r.dz hl) rfl Lo (by decide) (by decide)) (ev_repD (R := IsBun os) (hl e04) ?_ (fun v H' _ hl r => r.dz hl) rfl Lo (by decide) (by decide)) (rv_ne rfl))) (by simp)
      · intro H6 e6 Q6 q6
        have m6 := m4.mono (TupEx.of e6)
        refine ⟨_, rfl, _, rfl, b, g2, us, ts, kvs2, f1, rfl, m6.hb, m6.tv, m6.nt.wf, Nat.le_trans (Thg.preL_sz ts) (Nat.le_trans m.st (by decide)), e6 _ _ kp24.at_, kp24.fv.mono (TupEx.of e6), fun p us' H7 e7 h7 t7 => q6 _ H7 e7 ⟨p, us', rfl, h7, ?_⟩⟩
        rw [ld.subf] at t7
        exact t7
      · exact x_imp (x_of (ev_var rfl)) fun v H' e' hv => ⟨o, zs, hv, (m4.mono (TupEx.of e')).ho, (m4.mono (TupEx.of e')).tz⟩
    · have kp25 := kp24.mono e5
      have e25 := (e3.trans e4).trans e5
      refine ⟨_, rfl, .inr (.inr (.inl ⟨rfl, .inl ⟨_, kp25.at_⟩⟩)), g2, kvs2, rfl, rfl, kp25.at_, ?_⟩
      refine ⟨_, rfl, g2, _, rfl, DPut.k (k := .inl 0) upd_same (by decide), ?_⟩
      have e26 : Ex H2 (L2.upd (L2.upd H5 g2 (.dK [])) g2 (.dK (putK [] (.inl 0) (.str "spoilt")))) := Ex.mut (Ex.mut e25 hg20) hg20
      revert e26
      generalize L2.upd (L2.upd H5 g2 (.dK [])) g2 (.dK (putK [] (.inl 0) (.str "spoilt"))) = H6
      intro e26
      have e06 := (e1.trans e2).trans e26
      have kp16 := (kp1.mono e2).mono e26
      have m6 := m.mono (TupEx.of e06)
      exact s_ret (v := .bl true) (ev_is (ev_andV (a := true) (b := true) (ev_is (ev_op (ev_shown nb (x_matched rfl rfl m6 ld) (fun v H' e' hv => by obtain ⟨g3, kvs3, h1, _, h2⟩ := hv; exact ⟨g3, kvs3, h1, h2⟩)) (ev_shown nb (x_of (ev_var rfl)) (fun v H' e' hv => ⟨g, kvs, hv, kp16.mono e'⟩)) (rv_eq rfl)) (by simp))
        (fun _ => ev_is (ev_op (rep e06 rfl rfl) (ev_var rfl) (rv_eq rfl)) (by simp))) rfl) fun H7 e7 => k H7 (e06.trans e7)
end
end K03
set_option maxHeartbeats 2000000
/-! A tuple with another thing at the end of a way. -/
namespace K03
open PySem PySem.Spec PyProof.Rows L2 Evl LL
/-- what stands at the end of a way -/
def atP : List Thg → List Nat → Option Thg
  | _, [] => none
  | ts, [i] => ts[i]?
  | ts, i :: j :: r => match ts[i]? with
    | some (.node h xs) => if Thg.leafy h = false ∧ 1 ≤ j then atP xs ((j - 1) :: r) else none
    | _ => none
termination_by _ p => p.length
/-- the same with another thing there -/
def chg : List Thg → List Nat → Thg → List Thg
  | ts, [], _ => ts
  | ts, [i], n => ts.set i n
  | ts, i :: j :: r, n => match ts[i]? with
    | some (.node h xs) => ts.set i (.node h (chg xs ((j - 1) :: r) n))
    | _ => ts
termination_by _ p => p.length
theorem atP_two {ts : List Thg} {i j : Nat} {r : List Nat} {t : Thg} (h : atP ts (i :: j :: r) = some t) : ∃ k xs, ts[i]? = some (.node k xs) ∧ Thg.leafy k = false ∧ 1 ≤ j ∧ atP xs ((j - 1) :: r) = some t := by
  rw [atP] at h
  split at h
  · rename_i k xs e
    split at h
    · rename_i q
      exact ⟨k, xs, e, q.1, q.2, h⟩
    · cases h
  · cases h
theorem chg_two {ts xs : List Thg} {i j : Nat} {r : List Nat} {n : Thg} {k : Str} (h : ts[i]? = some (.node k xs)) : chg ts (i :: j :: r) n = ts.set i (.node k (chg xs ((j - 1) :: r) n)) := by
  rw [chg, h]
theorem atP_lt {ts : List Thg} {i : Nat} {r : List Nat} {t : Thg} (h : atP ts (i :: r) = some t) : i < ts.length := by
  cases r with
  | nil =>
    rw [atP] at h
    exact (List.getElem?_eq_some_iff.mp h).1
  | cons j r =>
    obtain ⟨k, xs, e, _⟩ := atP_two h
    exact (List.getElem?_eq_some_iff.mp e).1
theorem atP_snoc {h : Str} {xs : List Thg} {t : Thg} {m : Nat} (hl : Thg.leafy h = false) (h1 : 1 ≤ m) (hx : xs[m - 1]? = some t) : ∀ (p : List Nat) (ts : List Thg), atP ts p = some (.node h xs) → atP ts (p ++ [m]) = some t
  | [], ts, e => by rw [atP] at e; cases e
  | [i], ts, e => by
    rw [atP] at e
    show atP ts [i, m] = some t
    rw [atP, e]
    simp only [hl, h1, and_self, if_true]
    rw [atP]
    exact hx
  | i :: j :: r, ts, e => by
    obtain ⟨k, ys, e1, e2, e3, e4⟩ := atP_two e
    show atP ts (i :: j :: (r ++ [m])) = some t
    rw [atP, e1]
    simp only [e2, e3, and_self, if_true]
    exact atP_snoc hl h1 hx ((j - 1) :: r) ys e4
termination_by p => p.length
theorem set_mem {ts : List Thg} {i : Nat} {n t : Thg} (h : t ∈ ts.set i n) : t ∈ ts ∨ t = n := by
  rcases List.mem_or_eq_of_mem_set h with q | q
  · exact .inl q
  · exact .inr q
theorem szL_set : ∀ {ts : List Thg} {i : Nat} {n u : Thg}, ts[i]? = some u → Thg.szL (ts.set i n) + u.sz = Thg.szL ts + n.sz
  | [], i, n, u, h => by simp at h
  | x :: xs, 0, n, u, h => by
    simp at h
    subst h
    simp only [List.set, Thg.szL]
    omega
  | x :: xs, i + 1, n, u, h => by
    have := szL_set (ts := xs) (i := i) (n := n) (u := u) (by simpa using h)
    simp only [List.set, Thg.szL]
    omega
/-- what a change leaves -/
theorem chg_ok {W : Str → Prop} {n : Thg} : ∀ (p : List Nat) (ts : List Thg) (t : Thg), atP ts p = some t → (Thg.NcL W ts → n.Nc W → Thg.NcL W (chg ts p n)) ∧ (chg ts p n).length = ts.length ∧ Thg.szL (chg ts p n) ≤ Thg.szL ts + n.sz ∧ ∀ u ∈ chg ts p n, ∃ u0 ∈ ts, u.sz ≤ u0.sz + n.sz ∧ u.dp ≤ u0.dp + n.dp
  | [], ts, t, h => by rw [atP] at h; cases h
  | [i], ts, t, h => by
    rw [atP] at h
    rw [chg]
    refine ⟨fun a b => Thg.NcL.of fun u hu => ?_, List.length_set, ?_, fun u hu => ?_⟩
    · rcases set_mem hu with q | q
      · exact a.mem u q
      · rw [q]; exact b
    · have := szL_set (n := n) h
      omega
    · rcases set_mem hu with q | q
      · exact ⟨u, q, by omega, by omega⟩
      · rw [q]
        exact ⟨t, List.mem_of_getElem? h, by omega, by omega⟩
  | i :: j :: r, ts, t, h => by
    obtain ⟨k, xs, e1, e2, e3, e4⟩ := atP_two h
    obtain ⟨h1, h2, h3, h4⟩ := chg_ok (W := W) (n := n) ((j - 1) :: r) xs t e4
    rw [chg_two e1]
    have hm := List.mem_of_getElem? e1
    have dp : Thg.dpL (chg xs ((j - 1) :: r) n) ≤ Thg.dpL xs + n.dp := dpL_le fun u hu => by
      obtain ⟨u0, q1, _, q2⟩ := h4 u hu
      have := dp_mem q1
      omega
    refine ⟨fun a b => Thg.NcL.of fun u hu => ?_, List.length_set, ?_, fun u hu => ?_⟩
    · rcases set_mem hu with q | q
      · exact a.mem u q
      · rw [q]
        have c := a.mem _ hm
        exact ⟨c.1, (fun z => by rw [e2] at z; cases z), h1 c.2.2 b⟩
    · have := szL_set (n := .node k (chg xs ((j - 1) :: r) n)) e1
      simp only [Thg.sz] at this
      omega
    · rcases set_mem hu with q | q
      · exact ⟨u, q, by omega, by omega⟩
      · rw [q]
        refine ⟨_, hm, ?_, ?_⟩
        · simp only [Thg.sz]; omega
        · simp only [Thg.dp]; omega
termination_by p => p.length
theorem cut_to {xs : List V} {i : Nat} (h : i ≤ xs.length) : cutV xs none (some (i : Int)) = xs.take i := by
  unfold cutV
  have n : ¬ ((i : Int) < 0) := by omega
  have e1 : HT.sIx xs.length 0 none = 0 := rfl
  have e2 : HT.sIx xs.length xs.length (some (i : Int)) = i := by simp [HT.sIx, n]; omega
  rw [e1, e2]
  simp
theorem six_i {n i : Nat} (h : i ≤ n) : HT.sIx n n (some (i : Int)) = i := by
  have k : ¬ ((i : Int) < 0) := by omega
  simp [HT.sIx, k]
  omega
theorem six_0 {n i : Nat} (h : i ≤ n) : HT.sIx n 0 (some (i : Int)) = i := by
  have k : ¬ ((i : Int) < 0) := by omega
  simp [HT.sIx, k]
  omega
theorem set_parts {α : Type} : ∀ {xs : List α} {i : Nat} {y : α}, i < xs.length → xs.take i ++ [y] ++ xs.drop (i + 1) = xs.set i y
  | x :: xs, 0, y, _ => by simp
  | x :: xs, i + 1, y, h => by
    have := set_parts (xs := xs) (i := i) (y := y) (by simpa using h)
    simpa using this
/-- way of numbers in a tuple -/
def IsWay (p : List Nat) : VP := fun v H => ∃ q, v = .ref q ∧ H q = some (.tup (p.map fun n => V.int (n : Nat)))
theorem IsWay.monT {p : List Nat} : MonT (IsWay p) := fun v H H' e ⟨q, h1, h2⟩ => ⟨q, h1, e _ _ h2⟩
def spChg (d : Nat) : Sp := fun vs H Q _ => ∃ (v : V) (q : Addr) (nv : V) (nt : Thg), vs = [v, .ref q, nv] ∧ Tv H nv nt ∧ ((H q = some (.tup []) ∧ 0 < d ∧ ∀ r H', Ex H H' → Tv H' r nt → Q r H') ∨
  ∃ (a : Addr) (pre us : List V) (ts : List Thg) (i : Nat) (r : List Nat) (t : Thg), v = .ref a ∧ H a = some (.tup (pre ++ us)) ∧ pre.length ≤ 1 ∧ Thg.szL ts ≤ 30000 ∧ Tvs H us ts ∧ r.length + 1 < d ∧ IsWay ((i + pre.length) :: r) (.ref q) H ∧ atP ts (i :: r) = some t ∧
    ∀ (b : Addr) (us' : List V) (H' : Hp), Ex H H' → H' b = some (.tup (pre ++ us')) → Tvs H' us' (chg ts (i :: r) nt) → Q (.ref b) H')
structure Fcg (P : Program) (w : World) (K : PySem.W.Frag) (mg : Str → Option Value) (base : Heap) (d : Nat) : Prop where
  len : mg "len" = none
  h_law_changed : Has P w K mg base CX0 "_law_changed" d ["thing", "path", "new"] (spChg d)
section
variable {P : Program} {w : World} {K : PySem.W.Frag} {mg : Str → Option Value} {base : Heap} {f : Addr} {fd : FuncData}
theorem scChg : FnScope ["thing", "path", "new"] ["thing", "path", "new"] (defScope (top 30)) := ⟨rfl, rfl, rfl, by decide +kernel, rfl, by decide +kernel, by decide +kernel⟩
theorem tvs_set {H : Hp} : ∀ {us : List V} {ts : List Thg} {i : Nat} {v : V} {t : Thg}, Tvs H us ts → Tv H v t → Tvs H (us.set i v) (ts.set i t)
  | _, _, _, _, _, .nil, _ => by simp only [List.set]; exact .nil
  | _, _, 0, _, _, .cons h hs, k => .cons k hs
  | _, _, i + 1, _, _, .cons h hs, k => .cons h (tvs_set hs k)
theorem ok_changed (d : Nat) (F : FnT K "_law_changed" (top 30) f fd) (T : Fcg P w K mg base d) : FnOk P w K mg base CX0 (d + 1) f fd ["thing", "path", "new"] (spChg (d + 1)) := by
  have sc := scChg
  refine F.ok scChg (fun vs H Q E h => ?_) (fun cdv A outer s H vs Q E hr h => ?_)
  · obtain ⟨_, _, _, _, rfl, _⟩ := h
    rfl
  refine ⟨_, PSs.nox (pss_cons (ps_if (pt_cmpR op_eq (pe_callB call_len (by rfl) T.len (by decide +kernel) (pa_cons (pv 1) pa_nil)) pe_int (nomark _)) (pss_one (ps_ret (pv 2))) pss_nil)
      (pss_one (ps_ret (pe_op op_catA (pe_op op_catA (pe_slice sl_tupA (pv 0) po_none (po_some (pe_ix ix_tup (pv 1) pe_int (fun _ _ => rfl)))) (pe_tup (pa_cons (pe_callH (hj := Nat.le_refl _) T.h_law_changed hr pass0 (pa_cons (pe_ix ix_tup (pv 0) (pe_ix ix_tup (pv 1) pe_int (fun _ _ => rfl)) (fun _ _ => rfl)) (pa_cons (pe_slice sl_tupA (pv 1) (po_some pe_int) po_none) (pa_cons (pv 2) pa_nil)))) pa_nil))) (pe_slice sl_tupA (pv 0) (po_some (pe_op op_add (pe_ix ix_tup (pv 1) pe_int (fun _ _ => rfl)) pe_int)) po_none))))), ?_⟩
  obtain ⟨v, q, nv, nt, rfl, tn, ⟨hq, _, k⟩ | ⟨a, pre, us, ts, i, r, t, rfl, ha, pl, ul, tv, rd, hw, at_, k⟩⟩ := h
  · exact q_when (b := true) (et_is (et_test (ev_op (ev_cb (z := .int (([] : List V).length : Nat)) (ea_cons (ev_var rfl) ea_nil) fun H2 e Q q => ⟨_, _, rfl, .inr ⟨_, st_of (e _ _ hq), rfl⟩, q H2 (Ex.refl H2)⟩) ev_c (rv_eq rfl))) (by simp)) (fun _ H1 e1 => s_ret (ev_var rfl) fun H2 e2 => k _ H2 (e1.trans e2) (tn.mono (TupEx.of (e1.trans e2)))) (fun z => nomatch z)
  · obtain ⟨q', eq, hq⟩ := hw
    cases eq
    have hil := atP_lt at_
    have ull := tv.len
    have ulz := Nat.le_trans (pre_len ts) (Thg.preL_sz ts)
    have il : i + pre.length < (pre ++ us).length := by rw [List.length_append]; omega
    refine q_when (b := false) (et_is (et_test (ev_op (ev_cb (z := .int ((((i + pre.length) :: r).map fun n => V.int (n : Nat)).length : Nat)) (ea_cons (ev_var rfl) ea_nil) fun H2 e Q q => ⟨_, _, rfl, .inr ⟨_, st_of (e _ _ hq), rfl⟩, q H2 (Ex.refl H2)⟩) ev_c (rv_eq rfl))) (by simp; omega)) (fun z => nomatch z) (fun _ H1 e1 => ?_)
    have ha1 := e1 _ _ ha
    have hq1 := e1 _ _ hq
    have tv1 := tv.mono (TupEx.of e1)
    have nw : ¬ (HT.sIx (pre ++ us).length 0 none = 0 ∧ HT.sIx (pre ++ us).length (pre ++ us).length (some ((i + pre.length : Nat) : Int)) = (pre ++ us).length) := fun z => by
      rw [six_i (by omega)] at z
      omega
    have nw2 : ¬ (HT.sIx (pre ++ us).length 0 (some ((i + pre.length : Nat) + 1 : Int)) = 0 ∧ HT.sIx (pre ++ us).length (pre ++ us).length none = (pre ++ us).length) := fun z => by
      have e := z.1
      rw [show ((i + pre.length : Nat) + 1 : Int) = ((i + pre.length + 1 : Nat) : Int) by omega, six_0 (by omega)] at e
      omega
    have ex_ : (pre ++ us)[i + pre.length]? = us[i]? := by rw [List.getElem?_append_right (by omega)]; congr 1; omega
    obtain ⟨x, hx⟩ : ∃ x, us[i]? = some x := ⟨us[i], List.getElem?_eq_getElem (by omega)⟩
    obtain ⟨u, hu, tx⟩ := tvs_get tv1 hx
    -- behind the changed one
    have step : ∀ (pA : Addr) (HA : Hp) (y : V) (t' : Thg), Ex H1 HA → HA pA = some (.tup ((pre ++ us).take (i + pre.length) ++ [y])) → Tv HA y t' → chg ts (i :: r) nt = ts.set i t' → tSl (rSlA K) (tVar 0) (tPart (tOp (rI0 fun i j => V.int (i + j)) (tOp (rIxT K) (tVar 1) (tC (.int 0))) (tC (.int 1)))) tNoPart [some (.ref a), some (.ref q), some nv] HA fun z H4 => rCatA K (.ref pA) z H4 Q := by
      intro pA HA y t' eA hA ty ec
      refine ⟨_, rfl, _, rfl, q, _, 0, _, rfl, rfl, st_of (eA _ _ hq1), atI_nat (j := 0) rfl, _, _, rfl, rfl, _, rfl, a, _, rfl, st_of (eA _ _ ha1), (fun w => absurd w nw2), fun _ p hp => ?_⟩
      have e4 := Ex.new (o := .tup (cutV (pre ++ us) (some ((i + pre.length : Nat) + 1 : Int)) none)) hp
      have cd : cutV (pre ++ us) (some ((i + pre.length : Nat) + 1 : Int)) none = us.drop (i + 1) := by
        rw [show ((i + pre.length : Nat) + 1 : Int) = ((i + pre.length + 1 : Nat) : Int) by omega, cut_from _ _ (by omega), List.drop_append, List.drop_eq_nil_of_le (by omega), List.nil_append]
        congr 1
        omega
      have ct : (pre ++ us).take (i + pre.length) = pre ++ us.take i := by
        rw [List.take_append, List.take_of_length_le (by omega)]
        congr 2
        omega
      have ce : (pre ++ us).take (i + pre.length) ++ [y] ++ us.drop (i + 1) = pre ++ us.set i y := by
        rw [ct, List.append_assoc, List.append_assoc, ← List.append_assoc (us.take i), set_parts (by omega)]
      have fin : ∀ (b : Addr) (H6 : Hp), Ex HA H6 → H6 b = some (.tup (pre ++ us.set i y)) → Q (.ref b) H6 := fun b H6 e6 hb => k b (us.set i y) H6 (e1.trans (eA.trans e6)) hb (by rw [ec]; exact tvs_set (tv1.mono (TupEx.of (eA.trans e6))) (ty.mono (TupEx.of e6)))
      refine ⟨pA, p, _, _, rfl, rfl, st_of (e4 _ _ hA), st_of upd_same, ?_, (fun z => by simp at z), (fun _ z => ?_), (fun _ _ b hb => ?_)⟩
      · rw [cd, List.length_append, List.length_take, List.length_drop, List.length_singleton]
        exact sz_of (by omega)
      · rw [cd] at z
        refine fin pA _ e4 ?_
        rw [← ce, z, List.append_nil]
        exact e4 _ _ hA
      · refine fin b _ (e4.trans (Ex.new hb)) ?_
        rw [← ce, ← cd]
        exact upd_same
    refine ⟨_, rfl, _, rfl, q, _, 0, _, rfl, rfl, st_of hq1, atI_nat (j := 0) rfl, _, rfl, a, _, rfl, st_of ha1, (fun w => absurd w nw), fun _ p hp => ?_⟩
    have e2 := Ex.new (o := .tup (cutV (pre ++ us) none (some ((i + pre.length : Nat) : Int)))) hp
    rw [cut_to (by omega)] at e2
    rw [cut_to (by omega)]
    have hp2 : L2.upd H1 p (.tup ((pre ++ us).take (i + pre.length))) p = some (.tup ((pre ++ us).take (i + pre.length))) := upd_same
    revert e2 hp2
    generalize L2.upd H1 p (.tup ((pre ++ us).take (i + pre.length))) = H2
    intro e2 hp2
    refine ⟨_, rfl, _, rfl, q, _, 0, _, rfl, rfl, st_of (e2 _ _ hq1), atI_nat (j := 0) rfl, a, _, ((i + pre.length : Nat) : Int), x, rfl, rfl, st_of (e2 _ _ ha1), atI_nat (by rw [ex_]; exact hx), ?_⟩
    refine ⟨_, rfl, 1, rfl, q, _, rfl, st_of (e2 _ _ hq1), (fun w => absurd w (cut1_no _ _)), fun _ q2 nq2 => ⟨_, rfl, ?_⟩⟩
    have e3 := Ex.new (o := .tup (cutV (((i + pre.length) :: r).map fun n => V.int (n : Nat)) (some 1) none)) nq2
    have c1_ : cutV (((i + pre.length) :: r).map fun n => V.int (n : Nat)) (some 1) none = r.map fun n => V.int (n : Nat) := cut1 _ _
    rw [c1_] at e3
    rw [c1_]
    have hq2 : L2.upd H2 q2 (.tup (r.map fun n => V.int (n : Nat))) q2 = some (.tup (r.map fun n => V.int (n : Nat))) := upd_same
    revert e3 hq2
    generalize L2.upd H2 q2 (.tup (r.map fun n => V.int (n : Nat))) = H3
    intro e3 hq2
    have e13 := e2.trans e3
    -- the tuple of the one changed thing
    have one : ∀ (y : V) (t' : Thg) (H4 : Hp), Ex H3 H4 → Tv H4 y t' → chg ts (i :: r) nt = ts.set i t' → ([y] : List V).length ≤ sizeLine ∧ ∀ p2, H4 p2 = none → rCatA K (.ref p) (.ref p2) (L2.upd H4 p2 (.tup [y])) fun v H5 => tSl (rSlA K) (tVar 0) (tPart (tOp (rI0 fun i j => V.int (i + j)) (tOp (rIxT K) (tVar 1) (tC (.int 0))) (tC (.int 1)))) tNoPart [some (.ref a), some (.ref q), some nv] H5 fun z H6 => rCatA K v z H6 Q := by
      intro y t' H4 e4 ty ec
      refine ⟨by show 1 ≤ sizeLine; decide, fun p2 hp2' => ?_⟩
      have e5 := Ex.new (o := .tup [y]) hp2'
      have e15 := (e13.trans e4).trans e5
      refine ⟨p, p2, _, _, rfl, rfl, st_of ((e3.trans (e4.trans e5)) _ _ hp2), st_of upd_same, ?_, (fun z => ?_), (fun _ z => nomatch z), (fun _ _ b hb => ?_)⟩
      · rw [List.length_take, List.length_singleton]
        exact sz_of (by omega)
      · refine step p2 _ y t' e15 ?_ (ty.mono (TupEx.of e5)) ec
        rw [z]
        exact upd_same
      · exact step b _ y t' (e15.trans (Ex.new hb)) upd_same (ty.mono (TupEx.of (e5.trans (Ex.new hb)))) ec
    cases r with
    | nil =>
      refine ⟨x, q2, nv, nt, rfl, tn.mono (TupEx.of (e1.trans e13)), .inl ⟨hq2, by omega, fun r' H4 e4 t4 => ?_⟩⟩
      exact one r' nt H4 e4 t4 (by rw [chg])
    | cons j r =>
      obtain ⟨kh, xs, c1, c2, c3, c4⟩ := atP_two at_
      rw [hu] at c1
      cases c1
      cases tx with
      | @node a2 _ vs2 _ ea2 hs2 nb2 =>
        have zl := atP_lt c4
        refine ⟨.ref a2, q2, nv, nt, rfl, tn.mono (TupEx.of (e1.trans e13)), .inr ⟨a2, [.str kh], vs2, xs, j - 1, r, t, rfl, e13 _ _ ea2, by show 1 ≤ 1; omega, ?_, hs2.mono (TupEx.of e13), by simp at rd; omega, ⟨q2, rfl, ?_⟩, c4, fun b us' H4 e4 hb t4 => ?_⟩⟩
        · have z1 := sz_mem (List.mem_of_getElem? hu)
          simp only [Thg.sz] at z1
          omega
        · rw [hq2]
          show _ = some (HO.tup (((j - 1 + 1) :: r).map fun n => V.int (n : Nat)))
          rw [show j - 1 + 1 = j by omega]
        · exact one (.ref b) (.node kh (chg xs ((j - 1) :: r) nt)) H4 e4 (.node hb t4 nb2) (chg_two hu)
/-- as long as one likes -/
theorem chg_all (F : FnT K "_law_changed" (top 30) f fd) (hlen : mg "len" = none) (hm : mg "_law_changed" = some (.ref f)) (hk : PySem.W.keepIn K (.ref f) = true) (hb : Binds K fd ["thing", "path", "new"] []) : ∀ d, FnOk P w K mg base CX0 d f fd ["thing", "path", "new"] (spChg d)
  | 0 => ⟨fun vs H Q E h => by obtain ⟨_, _, _, _, rfl, _⟩ := h; rfl, fun A outer s H args us vs Q E hr he hbb hv h => by
    obtain ⟨_, _, _, _, _, _, ⟨_, hd, _⟩ | ⟨_, _, _, _, _, _, _, _, _, _, _, _, hd, _⟩⟩ := h
    · omega
    · omega⟩
  | d + 1 => ok_changed d F ⟨hlen, ⟨f, fd, hm, hk, hb, chg_all F hlen hm hk hb d⟩⟩
end
end K03
set_option maxHeartbeats 4000000
/-! enumerate(t), t a tuple. -/
namespace LL
open PySem PySem.Spec PyProof.Rows L2 Evl
open Sem (wp)
theorem meets_enum1 {v : Value} {o : Obj} {H : Heap → Prop} (B : Begins v o H) : Meets (Builtin.«enumerate.__new__» ⟨[.type "enumerate", v], []⟩) fun _ R s => H s.heap ∧
    R (.ok (.ret (.ref (s.heap.push o).objs.size))) { s with heap := (s.heap.push o).push { cls := .type "enumerate", data := .fields #[.none, .bool false, .ref s.heap.objs.size, rawInt 0, .none, .none] } } := by
  refine .of_wp fun prog w A R s hh => ?_
  obtain ⟨hp, g, d, tk, os⟩ := s
  obtain ⟨h1, h⟩ := hh
  have hsub := sub_enumerate
  have it : ∀ {A' : Around} {E : Value → Shared → Prop} {Q : Value → Shared → Prop}, Q (.ref hp.objs.size) ⟨hp.push o, g, d, tk, os⟩ → wpAny (model prog w) A' (pyIter v) Q E ⟨hp, g, d, tk, os⟩ := fun q => B.iter prog w _ _ _ _ h1 q
  wp_walk using it
  refine wpAny_stack_any fun st => wpAny_pure ?_
  split
  · rename_i c _ _ _ _ _
    cases (c == Value.type "enumerate") <;> (wp_walk using it; exact ⟨_, rfl, h⟩)
  · wp_walk using it
    exact ⟨_, rfl, h⟩
theorem enum_tup {prog : Program} {w : World} {A : Around} {E : Value → Shared → Prop} {s : Shared} {t : Addr} {items : Array Value} {Q : Value → Shared → Prop} (ht : s.heap.IsTuple t items)
    (h : ∀ h', IsEnum h' (s.heap.objs.size + 1) s.heap.objs.size 0 .none → h'.IsTupleIter s.heap.objs.size t 0 → (∀ b o, s.heap.get? b = some o → h'.get? b = some o) → Q (.ref (s.heap.objs.size + 1)) { s with heap := h' }) : wpAny (model prog w) A (call (.type "enumerate") [.ref t]) Q E s := by
  refine callType_new F.called_enumerate (by decide) (F.typeCall_enumerate_1 _) (F.newCall_enumerate_1 _) (fun obj => F.args_object_init_2 obj _) F.entry_enumerate_new (meets_enum1 (begins_tuple t items)) ⟨ht, ?_⟩
  have hz : (s.heap.push { cls := .type "tuple_iterator", data := .fields #[.ref t, .int 0 0] }).objs.size = s.heap.objs.size + 1 := Heap.size_push ..
  have e1 : ((s.heap.push { cls := .type "tuple_iterator", data := .fields #[.ref t, .int 0 0] }).push { cls := .type "enumerate", data := .fields #[.none, .bool false, .ref s.heap.objs.size, rawInt 0, .none, .none] }).get? (s.heap.objs.size + 1) = some { cls := .type "enumerate", data := .fields #[.none, .bool false, .ref s.heap.objs.size, rawInt 0, .none, .none] } := by
    rw [← hz]
    exact Heap.get?_push_size _ rfl
  show _ ∧ _
  rw [hz]
  exact ⟨⟨_, e1, rfl⟩, h _ e1 ⟨_, Heap.get?_push_of_some _ (Heap.get?_push_size _ rfl), rfl, rfl⟩ fun b o x => Heap.get?_push_of_some _ (Heap.get?_push_of_some _ x)⟩
/-- the tuple at a, each item in a new pair -/
def Itet (K : PySem.W.Frag) (a : Addr) : It :=
  ⟨fun i H => ∃ xs x, SqT K H a xs ∧ xs[i]? = some x, fun i H v H' => ∃ T x, v = .ref T ∧ H T = none ∧ H' = upd H T (.tup [.int (i : Nat), x]) ∧ ∀ xs, SqT K H a xs → xs[i]? = some x, fun i H => ∃ xs, SqT K H a xs ∧ xs.length ≤ i⟩
theorem tup_one {X : Cx} {pins : List (Addr × Obj)} {σ : L2.St} {H : Hp} {s : Shared} {a : Addr} {xs ys : List V} (I : Inv X pins σ H s) (h : SqT X.K H a xs) (k : SqT X.K H a ys) : xs = ys := I.tuple_inj h k
theorem turn_enT {P : Program} {w : World} {K : PySem.W.Frag} {elts : List Expr} {kk : Nat} {tpos : Pos} (a e it : Addr) :
    Turn P w K (.Tuple elts kk tpos) (Itet K a) [e, it] e (fun i h => (∃ old, IsEnum h e it ((i : Nat) : Int) old) ∧ h.IsTupleIter it a i ∧ e ≠ it) := by
  constructor
  case mem => simp
  case obj =>
    rintro i h ⟨⟨old, he⟩, ⟨o, ho, hc, hd⟩, _⟩ b hb
    rcases (by simpa using hb : b = e ∨ b = it) with rfl | rfl
    · exact ⟨_, he, fun v q => nomatch q⟩
    · exact ⟨o, ho, fun v q => by rw [hd] at q; cases q⟩
  case keep =>
    rintro i h h' ⟨⟨old, he⟩, hi, hne⟩ k
    exact ⟨⟨old, k e (by simp) _ he⟩, hi.at fun o q => k it (by simp) o q, hne⟩
  case self =>
    rintro A i s Q E ⟨⟨_, he⟩, _⟩ h
    exact wpAny_pyIter_enum he h
  case done =>
    rintro X rfl rfl rfl hc i pins s σ H E I hf ⟨⟨old, he⟩, hit, hne⟩ ⟨xs, hq, hx⟩
    obtain ⟨its, rv, p, hz⟩ := I.tuple hq
    have hl := rv.length
    have na : a ≠ it := by
      rintro rfl
      obtain ⟨o1, g1, c1, _⟩ := hit
      obtain ⟨o2, g2, c2, _⟩ := p
      rw [g1] at g2
      cases g2
      exact absurd (Value.type.inj (c1.symm.trans c2)) (by decide)
    obtain ⟨f0, f1, f2, f3, f4, f5⟩ := hf it (by simp)
    have hi2 : ∃ j : Nat, i = its.length + j := ⟨i - its.length, by omega⟩
    have D := Draws.tuple (prog := X.prog) (w := X.w) (A := X.A.in1) (I.ok.hd hc) it a na its.toArray
    -- the iterator has gone as far as the end or beyond
    exact wpAny_pyNext_enum_endD (n := i) (fp := [it, a]) (P := fun _ _ => True) (St := fun j h => j = i ∧ h.IsTupleIter it a i ∧ h.IsTuple a its.toArray)
      ⟨fun _ _ st => let ⟨o, ho, _⟩ := st.2.1; ⟨o, ho⟩, fun _ _ _ st hk => ⟨st.1, st.2.1.at fun o e => hk it (by simp) o e, st.2.2.at fun o e => hk a (by simp) o e⟩, fun j s Q E hj st hQ => absurd st.1 (Nat.ne_of_lt hj), fun s Q E st hE => wpAny_nextOf_tuple_end (I.ok.hd hc) st.2.1 st.2.2 (by simp; omega) hE⟩ he ⟨rfl, hit, p⟩ fun h' eb => ⟨rfl, I.turned (t' := s.toks) (fun b o hb q => eb b o hb q) f0 f1 f3 f4 f5⟩
  case item =>
    rintro X rfl rfl rfl hc i pins s σ H E I hf ⟨⟨old, he⟩, hit, hne⟩ ⟨xs, x, hq, hx⟩
    obtain ⟨its, rv, p, hz⟩ := I.tuple hq
    obtain ⟨u, hu, ru⟩ := rv.get hx
    have na : a ≠ it := by
      rintro rfl
      obtain ⟨o1, g1, c1, _⟩ := hit
      obtain ⟨o2, g2, c2, _⟩ := p
      rw [g1] at g2
      cases g2
      exact absurd (Value.type.inj (c1.symm.trans c2)) (by decide)
    have ne_ : a ≠ e := by
      rintro rfl
      obtain ⟨o2, g2, c2, _⟩ := p
      rw [show s.heap.get? a = _ from he] at g2
      cases g2
      exact absurd (Value.type.inj c2) (by decide)
    have hel : e < s.heap.objs.size := Heap.lt_size he
    have hil : it < s.heap.objs.size := by obtain ⟨_, q, _⟩ := hit; exact Heap.lt_size q
    have hlt : i < its.toArray.size := by
      have := (List.getElem?_eq_some_iff.mp hu).1
      simpa using this
    refine wpAny_pyNext_enum_itemD (Draws.tuple (A := X.A.in1) (I.ok.hd hc) it a na its.toArray) he ⟨hit, p⟩ hlt hne (by simp [hne, Ne.symm ne_]) fun x' h' tk hP ho hst' hT hsz hk => ?_
    have eu : x' = u := by
      have q : its[i]? = some x' := by simpa using hP
      rw [hu] at q
      exact (Option.some.inj q).symm
    subst eu
    refine ⟨_, rfl, wpAny_letOwnedTupleGo_enum (s := { s with heap := h', toks := tk + 1 }) ho fun h'' he' sb => ?_⟩
    have hT2 : h''.get? s.heap.objs.size = some { cls := .type "tuple", data := .seq #[.int i tk, x'] } := (sb.2 _ (Nat.ne_of_gt hel)).trans hT
    have new : ObjOk X.prog X.w (L2.upd H s.heap.objs.size (.tup [.int (i : Nat), x])) h'' s.heap.objs.size (.tup [.int (i : Nat), x]) := ⟨by show 2 ≤ sizeLine; decide, [.int i tk, x'], .cons ⟨_, rfl⟩ (.cons ru .nil), ⟨_, hT2, rfl, _, rfl⟩⟩
    have I1 : Inv X pins σ (L2.upd H s.heap.objs.size (.tup [.int (i : Nat), x])) { s with heap := h'', toks := tk + 1 } :=
      I.turnedNew (ch := [e, it]) (fun b ob hb q => by
        have h1 : b ≠ e := fun z => hb (by simp [z])
        have h2 : b ≠ it := fun z => hb (by simp [z])
        exact (sb.2 b h1).trans (hk b ob h1 h2 q)) hf (Nat.le_refl _) new
    refine ⟨.ref s.heap.objs.size, _, I1, rfl, ⟨_, x, rfl, I.hok.fresh (Nat.le_refl _), rfl, fun ys hy => by rw [tup_one I hy hq]; exact hx⟩, ⟨⟨x', ?_⟩, hst'.1.at fun o q => (sb.2 it (Ne.symm hne)).trans q, hne⟩, fun b hb => ?_⟩
    · have e1 : ((i + 1 : Nat) : Int) = (i : Int) + 1 := by omega
      rw [e1]
      exact he'
    · have hb' : b < s.heap.objs.size := by
        rcases (by simpa using hb : b = e ∨ b = it) with rfl | rfl
        · exact hel
        · exact hil
      rw [upd_ne (Nat.ne_of_lt hb')]
      exact (hf b hb).1
def iEnumT (K : PySem.W.Frag) (ta : TA) : TI := fun σ H R => ta σ H fun vs H1 => ∃ a xs, vs = [.ref a] ∧ SqT K H1 a xs ∧ R (Itet K a) H1
theorem pi_enumT {X : Cx} {e : Expr} {ta : TA} {p pos tpos : Pos} {elts : List Expr} {kk : Nat} (hg : Gl X "enumerate") (hm : X.mg "enumerate" = none) (ha : PA X [e] ta) (hs : starEach [e] X.env = [(false, eval e X.env)] := by rfl) : PI X (.Tuple elts kk tpos) (.Call (.Name "enumerate" p) [e] [] pos) (iEnumT X.K ta) := by
  constructor
  intro pins s σ H R I h
  have go := ha.run pos pins s σ H _ I h
  refine Call_ (ld_blt I hg hm boot_enumerate (PyProof.Rows.callWith_type1 (thn go ?_) hs rfl))
  rintro us s1 ⟨vs, H1, I1, r1, a, xs, rfl, hq, q⟩
  obtain ⟨u, rfl, ru⟩ := vals1 r1
  cases ru
  obtain ⟨its, rv, p', hz⟩ := I1.tuple hq
  refine enum_tup p' fun h' he hit hk => wpAny_pyIter_enum he ?_
  refine ⟨s1.heap.objs.size + 1, [s1.heap.objs.size + 1, s1.heap.objs.size], _, _, H1, rfl, I1.kept (t' := s1.toks) hk, turn_enT a (s1.heap.objs.size + 1) s1.heap.objs.size, ⟨⟨.none, he⟩, hit, Nat.succ_ne_self _⟩, fun b hb => ?_, q⟩
  have hle : s1.heap.objs.size ≤ b := by
    rcases (by simpa using hb : b = s1.heap.objs.size + 1 ∨ b = s1.heap.objs.size) with rfl | rfl
    · exact Nat.le_add_right _ _
    · exact Nat.le_refl _
  exact I1.fpOk hle (I1.hok.fresh hle)
theorem walk_enumT {K : PySem.W.Frag} {a : Addr} {xs : List V} : Walk (Itet K a) xs.length (fun H => SqT K H a xs) (YPair (fun i => some (.int (i : Nat))) (fun i => xs[i]?)) :=
  ⟨fun i H hi h => ⟨xs, xs[i], h, List.getElem?_eq_getElem hi⟩, fun H h => ⟨xs, h, Nat.le_refl _⟩, fun i H x H' hi h ⟨T, y, e1, e2, e3, e4⟩ => ⟨T, .int (i : Nat), y, e1, e2, e3, rfl, e4 xs h⟩⟩
end LL
set_option maxHeartbeats 2000000
/-! The ways to all things of a bundle; another thing at a drawn one. -/
namespace K03
open PySem PySem.Spec PyProof.Rows L2 Evl LL
/-- a pair of a way and what stands there -/
def IsIt (ts : List Thg) (x : List Nat × Thg) : VP := fun v H => ∃ a q u, v = .ref a ∧ H a = some (.tup [.ref q, u]) ∧ H q = some (.tup (x.1.map fun n => V.int (n : Nat))) ∧ Tv H u x.2 ∧ atP ts x.1 = some x.2
theorem IsIt.monT {ts : List Thg} {x : List Nat × Thg} : MonT (IsIt ts x) := fun v H H' e ⟨a, q, u, h1, h2, h3, h4, h5⟩ => ⟨a, q, u, h1, e _ _ h2, e _ _ h3, h4.mono e, h5⟩
theorem its_monT {ts : List Thg} {S : List (List Nat × Thg)} : ∀ R ∈ S.map (IsIt ts), MonT R := fun R hR => by
  obtain ⟨p, _, rfl⟩ := List.mem_map.mp hR
  exact IsIt.monT
def spPaths : Sp := fun vs H Q _ => ∃ (b : Addr) (us : List V) (ts : List Thg), vs = [.ref b] ∧ H b = some (.tup us) ∧ Tvs H us ts ∧ ts ≠ [] ∧ Thg.szL ts ≤ 20000 ∧ Thg.WfL ts ∧
  ∀ (p : Addr) (xs : List V) (S : List (List Nat × Thg)) (H' : Hp), Ex H H' → H p = none → H' p = some (.lst xs) → All2 (S.map (IsIt ts)) xs H' → xs ≠ [] → xs.length ≤ 20000 → Q (.ref p) H'
/-- what is still to come -/
def wtI (S : List (List Nat × Thg)) : Nat := (S.map fun x => x.2.pre.length).sum
theorem wtI_app (S R : List (List Nat × Thg)) : wtI (S ++ R) = wtI S + wtI R := by
  unfold wtI
  rw [List.map_append, List.sum_append]
theorem wtI_len (S : List (List Nat × Thg)) : S.length ≤ wtI S := by
  induction S with
  | nil => exact Nat.zero_le _
  | cons x S ih =>
    have : 1 ≤ x.2.pre.length := by rw [Thg.pre_eq]; simp
    show S.length + 1 ≤ x.2.pre.length + wtI S
    omega
/-- the things right within, with their ways -/
def kI (p : List Nat) : Nat → List Thg → List (List Nat × Thg)
  | _, [] => []
  | k, x :: xs => (p ++ [k], x) :: kI p (k + 1) xs
theorem kI_wt (p : List Nat) : ∀ (k : Nat) (xs : List Thg), wtI (kI p k xs) = (Thg.preL xs).length
  | _, [] => rfl
  | k, x :: xs => by
    have := kI_wt p (k + 1) xs
    show x.pre.length + wtI (kI p (k + 1) xs) = (Thg.pre x ++ Thg.preL xs).length
    rw [List.length_append, this]
theorem kI_len (p : List Nat) : ∀ (k : Nat) (xs : List Thg), (kI p k xs).length = xs.length
  | _, [] => rfl
  | k, x :: xs => congrArg (· + 1) (kI_len p (k + 1) xs)
theorem kI_get (p : List Nat) : ∀ (k : Nat) (xs : List Thg) (i : Nat), (kI p k xs)[i]? = xs[i]?.map fun t => (p ++ [k + i], t)
  | _, [], i => by simp [kI]
  | k, x :: xs, 0 => by simp [kI]
  | k, x :: xs, i + 1 => by
    have := kI_get p (k + 1) xs i
    simp only [kI, List.getElem?_cons_succ]
    rw [this, show k + 1 + i = k + (i + 1) by omega]
theorem kI_mem {p : List Nat} {k : Nat} {xs : List Thg} {x : List Nat × Thg} (h : x ∈ kI p k xs) : x.2 ∈ xs := by
  induction xs generalizing k with
  | nil => cases h
  | cons y ys ih =>
    rcases List.mem_cons.mp h with e | e
    · rw [e]; exact List.mem_cons_self
    · exact List.mem_cons_of_mem _ (ih e)
theorem all2_snoc {Rs : List VP} {R : VP} {ws : List V} {H : Hp} (h : All2 (Rs ++ [R]) ws H) : ∃ ws1 y, ws = ws1 ++ [y] ∧ All2 Rs ws1 H ∧ R y H := by
  induction Rs generalizing ws with
  | nil =>
    cases h with
    | cons a b =>
      cases b
      exact ⟨[], _, rfl, .nil, a⟩
  | cons S Rs ih =>
    cases h with
    | cons a b =>
      obtain ⟨ws1, y, rfl, h1, h2⟩ := ih b
      exact ⟨_ :: ws1, y, rfl, .cons a h1, h2⟩
theorem tYes_go {σ : L2.St} {H : Hp} {A B : Hp → Prop} (h : A H) : tYes σ H fun b H3 => if b = true then A H3 else B H3 := h
/-- a way is no longer than things are deep -/
theorem atP_long : ∀ (p : List Nat) (ts : List Thg) (t : Thg), atP ts p = some t → p.length + t.sz ≤ Thg.szL ts + 1
  | [], ts, t, h => by rw [atP] at h; cases h
  | [i], ts, t, h => by
    rw [atP] at h
    have := sz_mem (List.mem_of_getElem? h)
    show 1 + t.sz ≤ _
    omega
  | i :: j :: r, ts, t, h => by
    obtain ⟨k, xs, e1, e2, e3, e4⟩ := atP_two h
    have a := atP_long ((j - 1) :: r) xs t e4
    have b := sz_mem (List.mem_of_getElem? e1)
    simp only [Thg.sz] at b
    simp only [List.length_cons] at a ⊢
    omega
termination_by p => p.length
structure Fpa (P : Program) (w : World) (K : PySem.W.Frag) (mg : Str → Option Value) (base : Heap) : Prop where
  len : mg "len" = none
  enumerate : mg "enumerate" = none
  isinstance : mg "isinstance" = none
  tuple : mg "tuple" = none
section
variable {P : Program} {w : World} {K : PySem.W.Frag} {mg : Str → Option Value} {base : Heap} {f : Addr} {fd : FuncData}
theorem scPaths : FnScope ["bundle", "found", "waiting", "path", "thing", "at", "part"] ["bundle"] (defScope (top 29)) := ⟨rfl, rfl, rfl, by decide +kernel, rfl, by decide +kernel, by decide +kernel⟩
theorem ok_paths (F : FnT K "_law_paths" (top 29) f fd) (T : Fpa P w K mg base) : FnOk P w K mg base CX0 1 f fd ["bundle"] spPaths := by
  have sc := scPaths
  refine F.ok scPaths (fun vs H Q E h => ?_) (fun cdv A outer s H vs Q E hr h => ?_)
  · obtain ⟨_, _, _, rfl, _⟩ := h
    rfl
  refine ⟨_, PSs.nox (pss_cons (ps_par (i := 1) (j := 2) (by rfl) sc.nd rfl rfl (by decide) rfl rfl (pa_cons (pe_lst pa_nil) (pa_cons (pe_lc (own := [("at", 5), ("thing", 4)]) (tt := tYes) rfl sc.nd (pi_enumT (by rfl) T.enumerate (pa_cons (pv 0) pa_nil)) (blkOk_by (N := ["bundle", "found", "waiting", "path", "thing", "at", "part"]) (sc := defScope (top 29)) (by decide +kernel)) (fun _ _ _ _ _ => by exact (pg_tupK (K := K) (n := 2) rfl rfl (pgs_cons (pg_name (i := 5) sc.nd rfl (Or.inl rfl)) (pgs_cons (pg_name (i := 4) sc.nd rfl (Or.inl rfl)) pgs_nil)))) (fun _ _ _ _ _ => pts_nil) (fun _ _ _ _ _ => (pe_tup (pa_cons (pe_tup (pa_cons (pv 5) pa_nil)) (pa_cons (pv 4) pa_nil))))) pa_nil)) (by rfl))
      (pss_cons (ps_while PassesOwn.never (pt_cmpR op_gt (pe_callB call_len (by rfl) T.len (by decide +kernel) (pa_cons (pv 2) pa_nil)) pe_int (nomark _)) (pss_cons (ps_asg (pe_bm0 PySem.F.plainAttrs_list PySem.F.slot_list_pop PySem.F.type_list_pop mt_pop (pv 2)) (pg_tup rfl (pgs_cons (pg_name (i := 3) sc.nd rfl (Or.inr rfl)) (pgs_cons (pg_name (i := 4) sc.nd rfl (Or.inl rfl)) pgs_nil))))
      (pss_cons (ps_expr (pe_bm PySem.F.plainAttrs_list PySem.F.slot_list_append PySem.F.type_list_append mt_append (pv 1) (pa_cons (pe_tup (pa_cons (pv 3) (pa_cons (pv 4) pa_nil))) pa_nil)))
      (pss_one (ps_if (PW.pt (pw_and (pt_val (pe_callB call_isi (by rfl) T.isinstance (by decide +kernel) (pa_cons (pv 4) (pa_cons (pe_bltn (v := .ty "tuple") (u := .type "tuple") (by rfl) T.tuple (by decide +kernel) rfl) pa_nil)))) (pw_and1 (pt_cmpR op_notIn_seq (pe_ix ix_tup (pv 4) pe_int (fun _ _ => rfl)) (pe_tup (pa_cons pe_str (pa_cons pe_str pa_nil))) (by rfl))))) (pss_one (ps_expr (pe_bm PySem.F.plainAttrs_list PySem.F.slot_list_extend PySem.F.type_list_extend mt_extend (pv 2) (pa_cons (pe_lc (own := [("at", 5), ("part", 6)]) rfl sc.nd (pi_enumT (by rfl) T.enumerate (pa_cons (pv 4) pa_nil)) (blkOk_by (N := ["bundle", "found", "waiting", "path", "thing", "at", "part"]) (sc := defScope (top 29)) (by decide +kernel)) (fun _ _ _ _ _ => by exact (pg_tupK (K := K) (n := 2) rfl rfl (pgs_cons (pg_name (i := 5) sc.nd rfl (Or.inl rfl)) (pgs_cons (pg_name (i := 6) sc.nd rfl (Or.inl rfl)) pgs_nil)))) (fun _ _ _ _ _ => (pts_one (pt_cmpR op_gt (pv 5) pe_int (nomark _)))) (fun _ _ _ _ _ => by exact (pe_tup (pa_cons (pe_op (op_catAK (K := K) rfl) (pv 3) (pe_tup (pa_cons (pv 5) pa_nil))) (pa_cons (pv 6) pa_nil))))) pa_nil)))) pss_nil)))))
      (pss_one (ps_ret (pv 1))))), ?_⟩
  obtain ⟨b, us, ts, rfl, hb, tv, ne, sz, wf, k⟩ := h
  have tl := tv.len
  have pz := Thg.preL_sz ts
  have plz := pre_len ts
  refine ⟨by show 0 ≤ sizeLine; decide, fun fo hfo => ?_⟩
  have e1 := Ex.new (o := .lst []) hfo
  have hfo1 : L2.upd H fo (.lst []) fo = some (.lst []) := upd_same
  revert e1 hfo1
  generalize L2.upd H fo (.lst []) = H1
  intro e1 hfo1
  refine ⟨_, rfl, b, us, rfl, st_of (e1 _ _ hb), fun wa hwa => ?_⟩
  have nwa : H wa = none := fresh_back e1 hwa
  have fw : fo ≠ wa := fun z => by rw [← z, hfo1] at hwa; cases hwa
  refine lc_it (walk_enumT (xs := us)) (fun i H' => Ex H1 H' ∧ ∃ ys, H' wa = some (.lst ys) ∧ ys.length = i ∧ All2 (((kI [] 0 ts).take i).map (IsIt ts)) ys H') ⟨Ex.new hwa, [], upd_same, rfl, .nil⟩ (fun i H' _ pv => st_of (pv.1 _ _ (e1 _ _ hb))) (fun i x H' H'' hi pv y => ?_) (fun H2 pv => ?_)
  · obtain ⟨T, x1, x2, rfl, hT, rfl, h1, h2⟩ := y
    cases h1
    obtain ⟨ex, ys, hy, ly, ay⟩ := pv
    have eT := Ex.new (o := .tup [.int (i : Nat), x2]) hT
    obtain ⟨t, ht, tx⟩ := tvs_get (tv.mono (TupEx.of (e1.trans (ex.trans eT)))) h2
    refine ⟨T, [.int (i : Nat), x2], rfl, st_of upd_same, rfl, _, _, rfl, _, _, rfl, rfl, rfl, ?_⟩
    refine tYes_go ?_
    refine ⟨_, rfl, by show 1 ≤ sizeLine; decide, fun q hq => ⟨_, rfl, by show 2 ≤ sizeLine; decide, fun a ha => ?_⟩⟩
    have eq_ := Ex.new (o := .tup [.int (i : Nat)]) hq
    have ea := Ex.new (o := .tup [.ref q, x2]) ha
    have eA := (eT.trans eq_).trans ea
    have hyA := eA _ _ hy
    refine ⟨ys, hyA, sz_lt (by omega), Ex.mut (ex.trans eA) hwa, ys ++ [.ref a], upd_same, by simp [ly], ?_⟩
    have tA : TupEx H' (L2.upd (L2.upd (L2.upd (L2.upd H' T (.tup [.int (i : Nat), x2])) q (.tup [.int (i : Nat)])) a (.tup [.ref q, x2])) wa (.lst (ys ++ [.ref a]))) := (TupEx.of eA).trans (TupEx.lst hyA)
    have gk : (kI [] 0 ts)[i]? = some ([i], t) := by rw [kI_get, ht]; simp
    rw [List.take_succ, gk]
    simp only [Option.toList_some, List.map_append, List.map_cons, List.map_nil]
    refine All2.app (All2.monT its_monT tA ay) (.cons ⟨a, q, x2, rfl, TupEx.lst hyA _ _ upd_same, TupEx.lst hyA _ _ (ea _ _ upd_same), tx.mono (((TupEx.of eq_).trans (TupEx.of ea)).trans (TupEx.lst hyA)), ?_⟩ .nil)
    show atP ts [i] = some t
    rw [atP]
    exact ht
  obtain ⟨ex, ws0, hw0, lw0, aw0⟩ := pv
  rw [tl, ← kI_len [] 0 ts, List.take_length] at aw0
  have e02 := e1.trans ex
  refine ⟨_, _, rfl, ?_⟩
  refine q_while (fun m σ' H' => ∃ (fs ws : List V) (S R : List (List Nat × Thg)) (x3 x4 : Option V), σ' = [some (.ref b), some (.ref fo), some (.ref wa), x3, x4, none, none] ∧ H' fo = some (.lst fs) ∧ H' wa = some (.lst ws) ∧ Ex H H' ∧ All2 (S.map (IsIt ts)) fs H' ∧ All2 (R.map (IsIt ts)) ws H' ∧ (∀ r ∈ R, r.2.Wf) ∧ fs.length + wtI R ≤ 20000 ∧ (fs ≠ [] ∨ R ≠ []) ∧ m = wtI R) (wtI (kI [] 0 ts)) ?_ ?_
  · refine ⟨[], ws0, [], kI [] 0 ts, _, _, rfl, ex _ _ hfo1, hw0, e02, .nil, aw0, fun r hr => wf.mem _ (kI_mem hr), by rw [kI_wt]; simp; omega, .inr fun z => ?_, rfl⟩
    have := kI_len [] 0 ts
    rw [z] at this
    exact ne (List.length_eq_zero_iff.mp this.symm)
  · rintro m σ' H' ⟨fs, ws, S, R, x3, x4, rfl, hf, hw, exH, af, aw, wfR, sm, nn, rfl⟩
    have lws : ws.length = R.length := by rw [← aw.len, List.length_map]
    have lR := wtI_len R
    refine ⟨decide ((0 : Int) < (ws.length : Nat)), et_test (ev_op (ev_cb (z := .int (ws.length : Nat)) (ea_cons (ev_var rfl) ea_nil) fun H2 e Q q => ⟨_, _, rfl, .inl ⟨_, sq_of (e _ _ hw), rfl⟩, q H2 (Ex.refl H2)⟩) ev_c rv_I0), fun hb2 H3 e4 => ?_, fun hb2 H3 e4 => ?_⟩
    · have w0 : 0 < ws.length := by simpa using hb2
      rcases List.eq_nil_or_concat R with rfl | ⟨R0, ⟨pth, t⟩, rfl⟩
      · rw [lws] at w0; cases w0
      · rw [List.concat_eq_append] at aw wfR sm lws lR ⊢
        refine ⟨fun σ2 H2 => ∃ m', m' < wtI (R0 ++ [(pth, t)]) ∧ ∃ (fs ws : List V) (S R : List (List Nat × Thg)) (x3 x4 : Option V), σ2 = [some (.ref b), some (.ref fo), some (.ref wa), x3, x4, none, none] ∧ H2 fo = some (.lst fs) ∧ H2 wa = some (.lst ws) ∧ Ex H H2 ∧ All2 (S.map (IsIt ts)) fs H2 ∧ All2 (R.map (IsIt ts)) ws H2 ∧ (∀ r ∈ R, r.2.Wf) ∧ fs.length + wtI R ≤ 20000 ∧ (fs ≠ [] ∨ R ≠ []) ∧ m' = wtI R, fun _ _ z => z, ?_⟩
        obtain ⟨ws1, y, rfl, aw1, ay⟩ : ∃ ws1 y, ws = ws1 ++ [y] ∧ All2 (R0.map (IsIt ts)) ws1 H' ∧ IsIt ts (pth, t) y H' := by
          rw [List.map_append] at aw
          exact all2_snoc aw
        obtain ⟨a, q, u, rfl, g1, g2, g3, g4⟩ := ay
        have g4 : atP ts pth = some t := g4
        have g3 : Tv H' u t := g3
        have g2 : H' q = some (.tup (pth.map fun n => V.int (n : Nat))) := g2
        have wt : wtI (R0 ++ [(pth, t)]) = wtI R0 + t.pre.length := by rw [wtI_app]; rfl
        have wft : t.Wf := wfR (pth, t) (by simp)
        have hw3 := e4 _ _ hw
        have awn : a ≠ wa := fun z => by rw [z, hw] at g1; cases g1
        refine ⟨_, rfl, .inl ⟨rfl, _, sq_of hw3⟩, wa, ws1 ++ [.ref a], .ref a, rfl, rfl, hw3, snoc_last ws1 _, ?_⟩
        rw [List.dropLast_concat]
        refine ⟨a, [.ref q, u], rfl, st_of (by rw [upd_ne awn]; exact e4 _ _ g1), rfl, _, _, rfl, _, _, rfl, rfl, ?_⟩
        have t4 : TupEx H' (L2.upd H3 wa (.lst ws1)) := (TupEx.of e4).trans (TupEx.lst hw3)
        have ex4 : Ex H (L2.upd H3 wa (.lst ws1)) := (exH.trans e4).mut nwa
        have hw4 : L2.upd H3 wa (.lst ws1) wa = some (.lst ws1) := upd_same
        have hf4 : L2.upd H3 wa (.lst ws1) fo = some (.lst fs) := by rw [upd_ne fw]; exact e4 _ _ hf
        revert t4 ex4 hw4 hf4
        generalize L2.upd H3 wa (.lst ws1) = H4
        intro t4 ex4 hw4 hf4
        refine ⟨_, rfl, .inl ⟨rfl, _, sq_of hf4⟩, _, rfl, _, rfl, by show 2 ≤ sizeLine; decide, fun a5 ha5 => ?_⟩
        have e5 := Ex.new (o := .tup [.ref q, u]) ha5
        refine ⟨fo, fs, .ref a5, rfl, rfl, e5 _ _ hf4, sz_lt (by omega), ?_⟩
        have hf5 := e5 _ _ hf4
        have t5 : TupEx H' (L2.upd (L2.upd H4 a5 (.tup [.ref q, u])) fo (.lst (fs ++ [.ref a5]))) := (t4.trans (TupEx.of e5)).trans (TupEx.lst hf5)
        have ex5 : Ex H (L2.upd (L2.upd H4 a5 (.tup [.ref q, u])) fo (.lst (fs ++ [.ref a5]))) := (ex4.trans e5).mut hfo
        have hf6 : L2.upd (L2.upd H4 a5 (.tup [.ref q, u])) fo (.lst (fs ++ [.ref a5])) fo = some (.lst (fs ++ [.ref a5])) := upd_same
        have hw6 : L2.upd (L2.upd H4 a5 (.tup [.ref q, u])) fo (.lst (fs ++ [.ref a5])) wa = some (.lst ws1) := by rw [upd_ne (Ne.symm fw)]; exact e5 _ _ hw4
        have ha6 : L2.upd (L2.upd H4 a5 (.tup [.ref q, u])) fo (.lst (fs ++ [.ref a5])) a5 = some (.tup [.ref q, u]) := TupEx.lst hf5 _ _ upd_same
        revert t5 ex5 hf6 hw6 ha6
        generalize L2.upd (L2.upd H4 a5 (.tup [.ref q, u])) fo (.lst (fs ++ [.ref a5])) = H6
        intro t5 ex5 hf6 hw6 ha6
        have af6 : ∀ {H7}, TupEx H6 H7 → All2 ((S ++ [(pth, t)]).map (IsIt ts)) (fs ++ [.ref a5]) H7 := fun e => by
          rw [List.map_append]
          exact All2.app (All2.monT its_monT (t5.trans e) af) (.cons ⟨a5, q, u, rfl, e _ _ ha6, e _ _ (t5 _ _ g2), g3.mono (t5.trans e), g4⟩ .nil)
        have tp1 : 1 ≤ t.pre.length := by rw [Thg.pre_eq]; simp
        have plainEnd : ∀ H7, Ex H6 H7 → ∃ m', m' < wtI (R0 ++ [(pth, t)]) ∧ ∃ (fs_1 ws : List V) (S R : List (List Nat × Thg)) (x3 x4 : Option V), [some (.ref b), some (.ref fo), some (.ref wa), some (.ref q), some u, none, none] = [some (.ref b), some (.ref fo), some (.ref wa), x3, x4, none, none] ∧ H7 fo = some (.lst fs_1) ∧ H7 wa = some (.lst ws) ∧ Ex H H7 ∧ All2 (S.map (IsIt ts)) fs_1 H7 ∧ All2 (R.map (IsIt ts)) ws H7 ∧ (∀ r ∈ R, r.2.Wf) ∧ fs_1.length + wtI R ≤ 20000 ∧ (fs_1 ≠ [] ∨ R ≠ []) ∧ m' = wtI R := fun H7 e7 =>
          ⟨wtI R0, by omega, fs ++ [.ref a5], ws1, S ++ [(pth, t)], R0, _, _, rfl, e7 _ _ hf6, e7 _ _ hw6, ex5.trans e7, af6 (TupEx.of e7), All2.monT its_monT (t5.trans (TupEx.of e7)) aw1, fun r hr => wfR r (List.mem_append_left _ hr), by rw [List.length_append, List.length_singleton]; omega, .inl (by simp), rfl⟩
        cases t with
        | num n => exact s_when (b := false) (et_is (et_and (a := false) (b := false) (et_B (ev_instTup rfl (g3.mono t5))) (fun z => nomatch z)) rfl) (fun z => nomatch z) (fun _ H7 e7 => plainEnd H7 e7)
        | word n => exact s_when (b := false) (et_is (et_and (a := false) (b := false) (et_B (ev_instTup rfl (g3.mono t5))) (fun z => nomatch z)) rfl) (fun z => nomatch z) (fun _ H7 e7 => plainEnd H7 e7)
        | node h xs =>
          have g36 := g3.mono t5
          cases g36 with
          | @node an _ vs _ en hs nb =>
            refine s_when (b := !Thg.leafy h) (et_is (et_and (a := true) (et_B (ev_instTup rfl (.node en hs nb))) (fun _ => et_test (ev_niU (ev_op (ev_var rfl) ev_c (rv_ixT (st_of en) (atI_nat (j := 0) rfl))) (eu_tup (ea_cons ev_c (ea_cons ev_c ea_nil)) (by show 2 ≤ 100000; decide)) rfl rfl))) (by rw [leafy_in]; rfl)) (fun hb H7 e7 => ?_) (fun hb H7 e7 => plainEnd H7 e7)
            have hl : Thg.leafy h = false := by simpa using hb
            have pre_ : (Thg.node h xs).pre.length = (Thg.preL xs).length + 1 := by
              rw [Thg.pre_eq, List.length_cons]
              simp [Thg.kids, hl]
            have lvx := hs.len
            have lxp := pre_len xs
            have en7 := e7 _ _ en
            have t7 : TupEx H' H7 := t5.trans (TupEx.of e7)
            refine ⟨_, rfl, .inl ⟨rfl, _, sq_of (e7 _ _ hw6)⟩, _, rfl, an, .str h :: vs, rfl, st_of en7, fun Dl hD => ?_⟩
            refine lc_it (walk_enumT (xs := .str h :: vs)) (fun i G => Ex H7 G ∧ ∃ ys, G Dl = some (.lst ys) ∧ All2 (((kI pth 1 xs).take (i - 1)).map (IsIt ts)) ys G) ⟨Ex.new hD, [], upd_same, .nil⟩ (fun i G _ pv => st_of (pv.1 _ _ en7)) (fun i x G G' hi pv y => ?_) (fun H8 pv => ?_)
            · obtain ⟨T, x1, x2, rfl, hT, rfl, h1, h2⟩ := y
              cases h1
              obtain ⟨ex, ys, hy, ay⟩ := pv
              have eT := Ex.new (o := .tup [.int (i : Nat), x2]) hT
              refine ⟨T, [.int (i : Nat), x2], rfl, st_of upd_same, rfl, _, _, rfl, _, _, rfl, rfl, rfl, ?_⟩
              refine ⟨_, rfl, (i : Nat), 0, rfl, rfl, _, rfl, ?_⟩
              dsimp only
              cases i with
              | zero =>
                rw [if_neg (by simp)]
                exact ⟨ex.trans eT, ys, eT _ _ hy, All2.monT its_monT (TupEx.of eT) ay⟩
              | succ i =>
                rw [if_pos (by simp)]
                obtain ⟨t, ht, tx⟩ := tvs_get (hs.mono (TupEx.of (e7.trans (ex.trans eT)))) (show vs[i]? = some x2 by simpa using h2)
                have i1 : 1 + i = i + 1 := by omega
                have gk : (kI pth 1 xs)[i]? = some (pth ++ [i + 1], t) := by rw [kI_get, ht, i1]; rfl
                have pn : pth ≠ [] := fun z => by rw [z, atP] at g4; cases g4
                have qG : L2.upd G T (.tup [.int ((i + 1 : Nat) : Int), x2]) q = some (.tup (pth.map fun n => V.int (n : Nat))) := (TupEx.of (ex.trans eT)) _ _ (t7 _ _ g2)
                have ylen := ay.len
                rw [List.length_map, List.length_take, kI_len] at ylen
                rw [List.length_cons] at hi
                refine ⟨_, rfl, _, rfl, by show 1 ≤ sizeLine; decide, fun p1 hp1 => ?_⟩
                have ep1 := Ex.new (o := .tup [.int ((i + 1 : Nat) : Int)]) hp1
                refine ⟨q, p1, _, _, rfl, rfl, st_of (ep1 _ _ qG), st_of upd_same, ?_, (fun z => ?_), (fun _ z => nomatch z), fun _ _ p2 hp2 => ?_⟩
                · rw [List.length_map, List.length_singleton]
                  have := atP_long pth ts _ g4
                  exact sz_of (by omega)
                · exact absurd (List.map_eq_nil_iff.mp z) pn
                have ep2 := Ex.new (o := .tup ((pth.map fun n => V.int (n : Nat)) ++ [.int ((i + 1 : Nat) : Int)])) hp2
                refine ⟨_, rfl, by show 2 ≤ sizeLine; decide, fun a ha => ?_⟩
                have ea := Ex.new (o := .tup [.ref p2, x2]) ha
                have eA := ((eT.trans ep1).trans ep2).trans ea
                have hyA := eA _ _ hy
                refine ⟨ys, hyA, sz_lt (by omega), Ex.mut (ex.trans eA) hD, ys ++ [.ref a], upd_same, ?_⟩
                rw [show i + 1 + 1 - 1 = i + 1 by omega, List.take_succ, gk]
                simp only [Option.toList_some, List.map_append, List.map_cons, List.map_nil]
                refine All2.app (All2.monT its_monT ((TupEx.of eA).trans (TupEx.lst hyA)) ay) (.cons ⟨a, p2, x2, rfl, TupEx.lst hyA _ _ upd_same, ?_, tx.mono (((TupEx.of (ep1.trans ep2)).trans (TupEx.of ea)).trans (TupEx.lst hyA)), ?_⟩ .nil)
                · refine TupEx.lst hyA _ _ (ea _ _ ?_)
                  rw [List.map_append]
                  exact upd_same
                · exact atP_snoc hl (by omega) (by rw [show i + 1 - 1 = i by omega]; exact ht) pth ts g4
            · obtain ⟨ex, ys, hy, ay⟩ := pv
              rw [List.length_cons, show vs.length + 1 - 1 = vs.length by omega, lvx, ← kI_len pth 1 xs, List.take_length] at ay
              have ylen := ay.len
              rw [List.length_map, kI_len] at ylen
              have wk := kI_wt pth 1 xs
              have wl := wtI_len R0
              have aw1l := aw1.len
              rw [List.length_map] at aw1l
              have hw8 := ex _ _ (e7 _ _ hw6)
              have tL : TupEx H8 (L2.upd H8 wa (.lst (ws1 ++ ys))) := TupEx.lst hw8
              refine ⟨wa, Dl, ws1, ys, rfl, rfl, hw8, hy, sz_of (by omega), ?_⟩
              refine ⟨wtI (R0 ++ kI pth 1 xs), by rw [wtI_app, wt]; omega, fs ++ [.ref a5], ws1 ++ ys, S ++ [(pth, .node h xs)], R0 ++ kI pth 1 xs, _, _, rfl, ?_, upd_same, (ex5.trans (e7.trans ex)).mut nwa, af6 ((TupEx.of (e7.trans ex)).trans tL), ?_, ?_, ?_, .inl (by simp), rfl⟩
              · rw [upd_ne fw]
                exact ex _ _ (e7 _ _ hf6)
              · rw [List.map_append]
                exact All2.app (All2.monT its_monT ((t7.trans (TupEx.of ex)).trans tL) aw1) (All2.monT its_monT tL ay)
              · intro r hr
                rcases List.mem_append.mp hr with z | z
                · exact wfR r (List.mem_append_left _ z)
                · exact Thg.WfL.mem wft.2.2 _ (kI_mem z)
              · rw [List.length_append, List.length_singleton, wtI_app]
                omega
    · have w0 : ws.length = 0 := by
        have : ¬ 0 < ws.length := by simpa using hb2
        omega
      have R0 : R = [] := List.length_eq_zero_iff.mp (by omega)
      subst R0
      have fn : fs ≠ [] := by
        rcases nn with z | z
        · exact z
        · exact absurd rfl z
      exact s_ret (ev_var rfl) fun H5 e5 => k fo fs S H5 ((exH.trans e4).trans e5) hfo (e5 _ _ (e4 _ _ hf)) (All2.monT its_monT (TupEx.of (e4.trans e5)) af) fn (by omega)
end
end K03
set_option maxHeartbeats 2000000
namespace K03
open PySem PySem.Spec PyProof.Rows L2 Evl LL
def spSortOf : Sp := fun vs H Q _ => ∃ (b : Addr) (B : Bk) (v : V) (t : Thg) (o : Addr) (m : Int → Option Str), vs = [.ref b, v, .ref o] ∧ BookAt H b B ∧ B.Ok ∧ Tv H v t ∧ t.Nc (BW B) ∧ Own m H o ∧ OwnS B.lists m ∧ (∀ n ∈ Thg.unkL [t], m n ≠ none) ∧ ∀ (s : Str) (H' : Hp), Ex H H' → VS B.lists s → Q (.str s) H'
def spOther : Sp := fun vs H Q _ => ∃ (l c b : Addr) (B : Bk) (bu : Addr) (us : List V) (ts : List Thg) (o : Addr) (m : Int → Option Str), vs = [.ref l, .ref b, .ref bu, .ref o] ∧ HandC H l c ∧ BookAt H b B ∧ B.Ok ∧ H bu = some (.tup us) ∧ Tvs H us ts ∧ ts ≠ [] ∧ Thg.szL ts ≤ 20000 ∧ Thg.dpL ts ≤ 150 ∧ Thg.NcL (BW B) ts ∧ o ≠ l ∧ o ≠ c ∧ Own m H o ∧ OwnS B.lists m ∧ (∀ n ∈ Thg.unkL ts, m n ≠ none) ∧
  ∀ (r : Addr) (us' : List V) (ts' : List Thg) (H' : Hp), Exl l H H' → HandC H' l c → H' r = some (.tup us') → Tvs H' us' ts' → ts'.length = ts.length → Thg.NcL (BW B) ts' → Thg.szL ts' ≤ Thg.szL ts + 22 → (∀ u ∈ ts', ∃ u0 ∈ ts, u.sz ≤ u0.sz + 22 ∧ u.dp ≤ u0.dp + 3) → Q (.ref r) H'
structure Fot (P : Program) (w : World) (K : PySem.W.Frag) (mg : Str → Option Value) (base : Heap) : Prop where
  isinstance : mg "isinstance" = none
  tuple : mg "tuple" = none
  str : mg "str" = none
  dict : mg "dict" = none
  h_law_some : Has P w K mg base CX0 "_law_some" 2 ["hand", "things"] spSome
  h_law_paths : Has P w K mg base CX0 "_law_paths" 1 ["bundle"] spPaths
  h_law_sort_of : Has P w K mg base CX0 "_law_sort_of" 1 ["book", "thing", "known"] spSortOf
  h_law_changed : Has P w K mg base CX0 "_law_changed" 180 ["thing", "path", "new"] (spChg 180)
  h_law_thing : Has P w K mg base CX0 "_law_thing" 7 ["hand", "book", "sort", "deep", "own"] (spThing 4)
theorem unk_mem {ts : List Thg} {u : Thg} {n : Int} (h : u ∈ ts) (hn : n ∈ Thg.unkL [u]) : n ∈ Thg.unkL ts := by
  induction ts with
  | nil => cases h
  | cons x xs ih =>
    rw [Thg.unkL_cons]
    rcases List.mem_cons.mp h with e | e
    · rw [← e]; exact List.mem_append_left _ hn
    · exact List.mem_append_right _ (ih e)
theorem atP_sub {W : Str → Prop} : ∀ (p : List Nat) (ts : List Thg) (t : Thg), atP ts p = some t → Thg.NcL W ts → t.Nc W ∧ (∀ n ∈ Thg.unkL [t], n ∈ Thg.unkL ts) ∧ p.length ≤ Thg.dpL ts + 1
  | [], ts, t, h, _ => by rw [atP] at h; cases h
  | [i], ts, t, h, nc => by
    rw [atP] at h
    have hm := List.mem_of_getElem? h
    exact ⟨nc.mem t hm, fun n hn => unk_mem hm hn, by show 1 ≤ _; omega⟩
  | i :: j :: r, ts, t, h, nc => by
    obtain ⟨k, xs, e1, e2, e3, e4⟩ := atP_two h
    have hm := List.mem_of_getElem? e1
    obtain ⟨h1, h2, h3⟩ := atP_sub ((j - 1) :: r) xs t e4 (nc.mem _ hm).2.2
    refine ⟨h1, fun n hn => unk_mem hm (by rw [unk_plain e2]; exact h2 n hn), ?_⟩
    have := dp_mem hm
    simp only [Thg.dp] at this
    simp only [List.length_cons] at h3 ⊢
    omega
termination_by p => p.length
theorem exl_exo {l o : Addr} {H H1 H2 : Hp} (a : Exl l H H1) (b : Exo l o H1 H2) (n : H o = none) : Exl l H H2 := fun x u nx hx => b x u nx (fun z => by rw [z, n] at hx; cases hx) (a x u nx hx)
theorem exl_none {l o : Addr} {H H1 : Hp} (a : Exl l H H1) (ol : o ≠ l) (n : H1 o = none) : H o = none := by
  cases q : H o with
  | none => rfl
  | some u =>
    have := a _ _ ol q
    rw [n] at this
    cases this
theorem kit_strT {K : PySem.W.Frag} : PySem.W.kitOne K (.type "str") (.type "str") = some true := by kernel_rfl
theorem kit_strI {K : PySem.W.Frag} : PySem.W.kitOne K (.type "int") (.type "str") = some false := by kernel_rfl
theorem kit_strU {K : PySem.W.Frag} : PySem.W.kitOne K (.type "tuple") (.type "str") = some false := by kernel_rfl
def isWord : Thg → Bool
  | .word _ => true
  | _ => false
theorem ev_instStr {K : PySem.W.Frag} {σ : L2.St} {H : Hp} {i : Nat} {v : V} {t : Thg} (hi : σ[i]? = some (some v)) (h : Tv H v t) : Ev (tCB (rIsi K) (tCons (tVar i) (tCons (tC (.ty "str")) tNil))) σ H (.bl (isWord t)) := by
  cases h with
  | num n => exact ev_cb (ea_cons (ev_var hi) (ea_cons ev_c ea_nil)) fun H1 _ Q q => ⟨_, _, _, _, _, rfl, .ty _, .base (.int n), kit_strI, q H1 (Ex.refl H1)⟩
  | word s => exact ev_cb (ea_cons (ev_var hi) (ea_cons ev_c ea_nil)) fun H1 _ Q q => ⟨_, _, _, _, _, rfl, .ty _, .base (.str s), kit_strT, q H1 (Ex.refl H1)⟩
  | node e hs => exact ev_cb (ea_cons (ev_var hi) (ea_cons ev_c ea_nil)) fun H1 e1 Q q => ⟨_, _, _, _, _, rfl, .ty _, .base (.tup (e1 _ _ e)), kit_strU, q H1 (Ex.refl H1)⟩
theorem inV_word (w : Str) (ss : List Str) : inV (.str w) (ss.map V.str) = decide (w ∈ ss) := by
  unfold inV
  rw [List.any_map]
  induction ss with
  | nil => rfl
  | cons s ss ih =>
    rw [List.any_cons, ih]
    show (eqV (.str s) (.str w) || _) = _
    by_cases e : s = w
    · subst e
      simp [eqV]
    · have e2 : ¬ (w = s) := fun z => e z.symm
      simp [eqV, e, e2]
section
variable {P : Program} {w : World} {K : PySem.W.Frag} {mg : Str → Option Value} {base : Heap} {f : Addr} {fd : FuncData}
theorem scSortOf : FnScope ["book", "thing", "known", "name", "words"] ["book", "thing", "known"] (defScope (top 31)) := ⟨rfl, rfl, rfl, by decide +kernel, rfl, by decide +kernel, by decide +kernel⟩
theorem ok_sort_of (F : FnT K "_law_sort_of" (top 31) f fd) (hi : mg "isinstance" = none) (ht : mg "tuple" = none) (hs : mg "str" = none) : FnOk P w K mg base CX0 1 f fd ["book", "thing", "known"] spSortOf := by
  have sc := scSortOf
  have T : (mg "isinstance" = none ∧ mg "tuple" = none) ∧ mg "str" = none := ⟨⟨hi, ht⟩, hs⟩
  refine F.ok scSortOf (fun vs H Q E h => ?_) (fun cdv A outer s H vs Q E hr h => ?_)
  · obtain ⟨_, _, _, _, _, _, rfl, _⟩ := h
    rfl
  refine ⟨_, PSs.nox (pss_cons (ps_if (pt_val (pe_callB call_isi (by rfl) T.1.1 (by decide +kernel) (pa_cons (pv 1) (pa_cons (pe_bltn (v := .ty "str") (u := .type "str") (by rfl) T.2 (by decide +kernel) rfl) pa_nil)))) (pss_one (ps_ret (pe_ix ix_list (pe_lc (own := [("name", 3), ("words", 4)]) rfl sc.nd (pi_tup (pe_ix ix_tup (pv 0) pe_int (fun _ _ => rfl))) (blkOk_by (N := ["book", "thing", "known", "name", "words"]) (sc := defScope (top 31)) (by decide +kernel)) (fun _ _ _ _ _ => by exact (pg_tupK (K := K) (n := 2) rfl rfl (pgs_cons (pg_name (i := 3) sc.nd rfl (Or.inl rfl)) (pgs_cons (pg_name (i := 4) sc.nd rfl (Or.inl rfl)) pgs_nil)))) (fun _ _ _ _ _ => by exact (pts_one (pt_cmpR (op_in_seqK (K := K) rfl) (pv 1) (pv 4) (by rfl)))) (fun _ _ _ _ _ => (pv 3))) pe_int (fun _ _ => rfl)))) pss_nil)
      (pss_cons (ps_if (pt_not (pt_val (pe_callB call_isi (by rfl) T.1.1 (by decide +kernel) (pa_cons (pv 1) (pa_cons (pe_bltn (v := .ty "tuple") (u := .type "tuple") (by rfl) T.1.2 (by decide +kernel) rfl) pa_nil))))) (pss_one (ps_ret pe_str)) pss_nil)
      (pss_one (ps_ret (pe_ifExp (pt_cmpR op_eq (pe_ix ix_tup (pv 1) pe_int (fun _ _ => rfl)) pe_str (nomark _)) (pe_dget (Nat.lt_of_le_of_lt (Nat.add_le_add_left (by decide : 1 ≤ 64) _) hr.units) (pv 2) (pe_ix ix_tup (pv 1) pe_int (fun _ _ => rfl)) (fun _ _ => rfl)) pe_str))))), ?_⟩
  obtain ⟨b, B, v, t, o, m, rfl, hb, ok, tv, nc, own, os, dm, k⟩ := h
  obtain ⟨x, y, z, vs, us, q1, q2, q3, q4, q5⟩ := hb.is_
  refine q_when (b := isWord t) (et_B (ev_instStr rfl tv)) (fun hw H1 e1 => ?_) (fun hw H1 e1 => ?_)
  · cases t with
    | num _ => cases hw
    | node _ _ => cases hw
    | word wd =>
      cases tv
      obtain ⟨p, hp, hwp⟩ := nc.1
      have few := ok.l.few
      have vl : vs.length = B.lists.length := by rw [← q3.len, List.length_map]
      have q1' := e1 _ _ q1
      obtain ⟨ob, g1, g2⟩ := q2
      refine ⟨_, rfl, b, _, 0, .ref x, rfl, rfl, st_of q1', atI_nat (j := 0) rfl, x, rfl, ⟨vs, .inl (.inr ⟨ob, e1 _ _ g1⟩)⟩, fun Dl hD => ?_⟩
      refine lc_it (walk_tup (xs := vs)) (Cw H1 (fun i => decide (wd ∈ (B.lists.getD i ("", [])).2)) (fun i => .str (B.lists.getD i ("", [])).1) Dl) ⟨hD, Ex.new hD, upd_same⟩ (fun i G _ pv => .inl (.inr ⟨ob, pv.2.1 _ _ (e1 _ _ g1)⟩)) (fun i u G G' hi pv yy => ?_) (fun H5 pv => ?_)
      · obtain ⟨rfl, hu⟩ := yy
        obtain ⟨R, hR, r⟩ := all2_get q3 hu
        rw [List.getElem?_map] at hR
        obtain ⟨p', hp', rfl⟩ := Option.map_eq_some_iff.mp hR
        obtain ⟨a2, b2, rfl, f1, f2⟩ := r
        have gp : B.lists.getD i ("", []) = p' := by rw [List.getD_eq_getElem?_getD, hp']; rfl
        have ee := e1.trans pv.2.1
        refine ⟨a2, _, rfl, st_of (ee _ _ f1), rfl, _, _, rfl, _, _, rfl, rfl, rfl, cw_turn pv (by omega) ?_ (fun _ => ev_is (ev_var rfl) (by rw [gp]))⟩
        refine et_is (et_test (ev_op (ev_var rfl) (ev_var rfl) (rv_isT (st_of (e1 _ _ f2)) rfl (flat_strs _)))) ?_
        rw [inV_word, gp]
      obtain ⟨p1, p2, p3⟩ := pv
      obtain ⟨i0, hi0, rfl⟩ := List.getElem_of_mem hp
      have g0 : B.lists.getD i0 ("", []) = B.lists[i0] := by rw [List.getD_eq_getElem?_getD, List.getElem?_eq_getElem hi0]; rfl
      have mem : V.str (B.lists.getD i0 ("", [])).1 ∈ given vs.length (fun i => decide (wd ∈ (B.lists.getD i ("", [])).2)) (fun i => .str (B.lists.getD i ("", [])).1) := List.mem_map.mpr ⟨i0, List.mem_filter.mpr ⟨List.mem_range.mpr (by omega), by rw [g0]; simpa using hwp⟩, rfl⟩
      cases hg : given vs.length (fun i => decide (wd ∈ (B.lists.getD i ("", [])).2)) (fun i => V.str (B.lists.getD i ("", [])).1) with
      | nil => rw [hg] at mem; cases mem
      | cons u rest =>
        rw [hg] at p3
        have hu : u ∈ given vs.length (fun i => decide (wd ∈ (B.lists.getD i ("", [])).2)) (fun i => V.str (B.lists.getD i ("", [])).1) := by rw [hg]; exact List.mem_cons_self
        obtain ⟨i, hi, rfl⟩ := List.mem_map.mp hu
        have hi := List.mem_range.mp (List.mem_filter.mp hi).1
        have gi : B.lists.getD i ("", []) = B.lists[i]'(by omega) := by rw [List.getD_eq_getElem?_getD, List.getElem?_eq_getElem (by omega)]; rfl
        refine ⟨Dl, _, 0, _, rfl, rfl, sq_of p3, atI_nat (j := 0) rfl, ?_⟩
        rw [gi]
        exact k _ H5 (e1.trans p2) (.inr (.inr ⟨_, List.getElem_mem _, rfl⟩))
  · refine q_when (b := !isTup t) (et_not (et_B (ev_instTup rfl (tv.mono (TupEx.of e1))))) (fun ht H2 e2 => ?_) (fun ht H2 e2 => ?_)
    · exact s_ret ev_c fun H3 e3 => k _ H3 ((e1.trans e2).trans e3) (.inr (.inl rfl))
    · cases t with
      | num _ => cases ht
      | word _ => cases hw
      | node h xs =>
        cases tv with
        | @node a _ us2 _ ea hs =>
          have e02 := e1.trans e2
          refine s_retX (R := fun v _ => ∃ s, v = .str s ∧ VS B.lists s) (x_if' (b := decide (V.str h = V.str "?")) (et_test (ev_op (ev_op (ev_var rfl) ev_c (rv_ixT (st_of (e02 _ _ ea)) (atI_nat (j := 0) rfl))) ev_c (rv_eq rfl))) (fun hq => ?_) (fun hq => ?_)) fun v H3 e3 ⟨s, hv, vs_⟩ => by
            rw [hv]
            exact k s H3 (e02.trans e3) vs_
          · have hq : h = "?" := V.str.inj (by simpa using hq)
            subst hq
            obtain ⟨n, en, _⟩ := nc.2.1 rfl
            subst en
            have hn := dm n (by rw [Thg.unk_self]; exact List.mem_singleton.mpr rfl)
            obtain ⟨s, hs1⟩ := Option.ne_none_iff_exists'.mp hn
            obtain ⟨kvs, g1, g2, g3, g4⟩ := own
            cases hs with
            | cons h1 h2 =>
              cases h1
              cases h2
              refine x_imp (x_of (v := .str s) fun H3 e3 Q3 q3 => ?_) fun v H' _ hv => ⟨s, hv, os n s hs1⟩
              have z := DGet.k (k := .inl n) ((e02.trans e3) _ _ g1)
              rw [g3 n, hs1] at z
              exact ⟨_, rfl, _, rfl, a, _, 1, .int n, rfl, rfl, st_of ((e02.trans e3) _ _ ea), atI_nat (j := 1) rfl, o, _, rfl, z, q3 H3 (Ex.refl H3)⟩
          · exact x_imp (x_of ev_c) fun v H' _ hv => ⟨"kind", hv, .inl rfl⟩
theorem scOther : FnScope ["hand", "book", "bundle", "known", "path", "here"] ["hand", "book", "bundle", "known"] (defScope (top 32)) := ⟨rfl, rfl, rfl, by decide +kernel, rfl, by decide +kernel, by decide +kernel⟩
theorem ok_other (F : FnT K "_law_otherwise" (top 32) f fd) (T : Fot P w K mg base) : FnOk P w K mg base CX0 181 f fd ["hand", "book", "bundle", "known"] spOther := by
  have sc := scOther
  refine F.ok scOther (fun vs H Q E h => ?_) (fun cdv A outer s H vs Q E hr h => ?_)
  · obtain ⟨_, _, _, _, _, _, _, _, _, rfl, _⟩ := h
    rfl
  refine ⟨_, PSs.nox (pss_cons (ps_asg (pe_callH (hj := by decide) T.h_law_some hr pass0 (pa_cons (pv 0) (pa_cons (pe_callH (hj := by decide) T.h_law_paths hr pass0 (pa_cons (pv 2) pa_nil)) pa_nil))) (pg_tup rfl (pgs_cons (pg_name (i := 4) sc.nd rfl (Or.inl rfl)) (pgs_cons (pg_name (i := 5) sc.nd rfl (Or.inl rfl)) pgs_nil))))
      (pss_one (ps_ret (pe_callH (hj := by decide) T.h_law_changed hr pass0 (pa_cons (pv 2) (pa_cons (pv 4) (pa_cons (pe_callH (hj := by decide) T.h_law_thing hr pass0 (pa_cons (pv 0) (pa_cons (pv 1) (pa_cons (pe_callH (hj := by decide) T.h_law_sort_of hr pass0 (pa_cons (pv 1) (pa_cons (pv 5) (pa_cons (pv 3) pa_nil)))) (pa_cons pe_int (pa_cons (pe_callTy call_dictD (by rfl) T.dict (by decide +kernel) (pa_cons (pv 3) pa_nil)) pa_nil)))))) pa_nil))))))), ?_⟩
  obtain ⟨l, c, b, B, bu, us, ts, o, m, rfl, hh, hb, ok, hbu, tv, ne, sz, dp, nc, ol, oc, own, os, dm, k⟩ := h
  refine ⟨_, rfl, _, rfl, bu, us, ts, rfl, hbu, tv, ne, sz, nc.wf, fun p xs S H1 e1 np hp ax xn xl => ⟨l, c, p, xs, rfl, (hh.new np).1, .inl hp, xn, by omega, hh.mono e1, fun u H2 hu e2 hh2 => ?_⟩⟩
  obtain ⟨R, hR, r⟩ := all2_mem ax hu
  obtain ⟨⟨pth, t⟩, _, rfl⟩ := List.mem_map.mp hR
  have x02 : Exl l H H2 := (Exl.of e1).trans e2
  have st02 : Stay H H2 := hh.stay x02
  obtain ⟨a, q, v, rfl, g1, g2, g3, g4⟩ := IsIt.monT _ _ _ ((hh.mono e1).stay e2).tup r
  have g4 : atP ts pth = some t := g4
  have g3 : Tv H2 v t := g3
  have g2 : H2 q = some (.tup (pth.map fun n => V.int (n : Nat))) := g2
  obtain ⟨tnc, tun, tdp⟩ := atP_sub pth ts t g4 nc
  obtain ⟨i, rr, rfl⟩ : ∃ i rr, pth = i :: rr := by
    cases pth with
    | nil => rw [atP] at g4; cases g4
    | cons i rr => exact ⟨i, rr, rfl⟩
  have own2 : Own m H2 o := own.at fun x h => x02 _ _ ol h
  obtain ⟨kvs, ho, key, hv, hbd⟩ := own2
  refine ⟨a, _, rfl, st_of g1, rfl, _, _, rfl, _, _, rfl, rfl, ?_⟩
  refine ⟨_, rfl, _, rfl, _, rfl, _, rfl, _, rfl, _, rfl, _, rfl, b, B, v, t, o, m, rfl, hb.mono st02, ok, g3, tnc, ⟨kvs, ho, key, hv, hbd⟩, os, fun n hn => dm n (tun n hn), fun s H3 e3 vs_ => ⟨_, rfl, o, kvs, rfl, .inl (e3 _ _ ho), fun o2 ho2 => ?_⟩⟩
  have hh3 := hh2.mono e3
  obtain ⟨o2l, o2c⟩ := hh3.new ho2
  have x03 := x02.trans (Exl.of e3)
  have n0 : H o2 = none := exl_none x03 o2l ho2
  have e4 := Ex.new (o := .dK kvs) ho2
  have hh4 := hh3.mono e4
  have own4 : Own m (L2.upd H3 o2 (.dK kvs)) o2 := ⟨kvs, upd_same, key, hv, hbd⟩
  have st24 : Stay H2 (L2.upd H3 o2 (.dK kvs)) := Stay.ex (e3.trans e4)
  refine ⟨l, c, b, B, s, 2, .ref o2, o2, m, rfl, by omega, fun _ => by omega, hh4, (hb.mono st02).mono st24, ok, vs_, .inr ⟨rfl, o2l, o2c, own4⟩, os, fun nv nt m' H5 ex5 hh5 ow5 os5 gr5 dm5 tv5 th5 => ?_⟩
  have off4 : Off l o2 (L2.upd H3 o2 (.dK kvs)) := ⟨hh4.lst, .inr (.inl ⟨kvs, upd_same⟩)⟩
  have st25 : Stay H2 H5 := st24.trans (ex5.stay off4)
  have st05 := st02.trans st25
  have x05 : Exl l H H5 := exl_exo (x03.trans (Exl.of e4)) ex5 n0
  refine ⟨.ref bu, q, nv, nt, rfl, tv5, .inr ⟨bu, [], us, ts, i, rr, t, rfl, st05.tup _ _ hbu, by show 0 ≤ 1; omega, by omega, tv.mono st05.tup, ?_, ⟨q, rfl, ?_⟩, g4, fun r us' H6 e6 hr tv6 => ?_⟩⟩
  · simp only [List.length_cons] at tdp
    omega
  · have := st25.tup _ _ g2
    rw [this]
    rfl
  · obtain ⟨c1, c2, c3, c4⟩ := chg_ok (W := BW B) (n := nt) (i :: rr) ts t g4
    have s2 : nt.sz ≤ 22 := th5.sz
    have d2 : nt.dp ≤ 3 := th5.dp
    exact k r us' _ H6 (x05.trans (Exl.of e6)) (hh5.mono e6) hr tv6 c2 (c1 nc th5.nc) (by omega) fun u hu => by
      obtain ⟨u0, h0, h1, h2⟩ := c4 u hu
      exact ⟨u0, h0, by omega, by omega⟩
end
end K03
set_option maxHeartbeats 2000000
/-! Bundles near to a drawn one. -/
namespace K03
open PySem PySem.Spec PyProof.Rows L2 Evl LL
section
variable {W : Str → Prop} {f : Int → Option Thg}
mutual
/-- the unknowns of what is filled -/
theorem Thg.unk_sub : ∀ {t : Thg}, t.Nc W → ∀ n, n ∈ Thg.unkL [Thg.sub f t] → (n ∈ Thg.unkL [t] ∧ f n = none) ∨ ∃ k ∈ Thg.unkL [t], ∃ u, f k = some u ∧ n ∈ Thg.unkL [u]
  | .num _, _, n, h => by simp [Thg.sub, Thg.unkL, Thg.preL, Thg.pre, Thg.unk] at h
  | .word _, _, n, h => by simp [Thg.sub, Thg.unkL, Thg.preL, Thg.pre, Thg.unk] at h
  | .node k xs, hn, n, h => by
    rcases hn.unk_node with ⟨ek, m, ex, m0, m1, e⟩ | ⟨ek, e⟩ | ⟨h1, h2, e⟩
    · subst ex ek
      rw [e]
      simp only [Thg.sub, if_true] at h
      cases q : f m with
      | none =>
        rw [q] at h
        have em := h
        rw [Option.getD_none, e] at em
        rw [List.mem_singleton.mp em]
        exact .inl ⟨List.mem_singleton.mpr rfl, q⟩
      | some u =>
        rw [q] at h
        exact .inr ⟨m, List.mem_singleton.mpr rfl, u, q, h⟩
    · subst ek
      have : Thg.sub f (.node "~" xs) = .node "~" xs := by
        have h1 : ¬ (("~" : Str) = "?") := by decide
        simp only [Thg.sub, h1, if_false, if_true]
      rw [this, e] at h
      cases h
    · rw [e]
      have es : Thg.sub f (.node k xs) = .node k (Thg.subL f xs) := by simp [Thg.sub, h1, h2]
      rw [es, Thg.unk_node, Thg.unk_closed (by simpa [Thg.isO] using h1)] at h
      have h3 : n ∈ Thg.unkL (Thg.subL f xs) := by simpa [Thg.kids, leafy_no h1 h2] using h
      exact Thg.unk_subL hn.2.2 n h3
theorem Thg.unk_subL : ∀ {ts : List Thg}, Thg.NcL W ts → ∀ n, n ∈ Thg.unkL (Thg.subL f ts) → (n ∈ Thg.unkL ts ∧ f n = none) ∨ ∃ k ∈ Thg.unkL ts, ∃ u, f k = some u ∧ n ∈ Thg.unkL [u]
  | [], _, n, h => by simp [Thg.subL, Thg.unkL, Thg.preL] at h
  | t :: ts, hn, n, h => by
    have e : Thg.subL f (t :: ts) = Thg.sub f t :: Thg.subL f ts := rfl
    rw [e, Thg.unkL_cons] at h
    rw [Thg.unkL_cons t ts]
    rcases List.mem_append.mp h with q | q
    · rcases Thg.unk_sub hn.1 n q with ⟨a, b⟩ | ⟨k, a, u, b, c⟩
      · exact .inl ⟨List.mem_append_left _ a, b⟩
      · exact .inr ⟨k, List.mem_append_left _ a, u, b, c⟩
    · rcases Thg.unk_subL hn.2 n q with ⟨a, b⟩ | ⟨k, a, u, b, c⟩
      · exact .inl ⟨List.mem_append_right _ a, b⟩
      · exact .inr ⟨k, List.mem_append_right _ a, u, b, c⟩
end
end
theorem leads_fill {ts : List Thg} {f : Int → Option Thg} (h : ∀ n, n ∈ Thg.unkL ts ↔ f n ≠ none) : Leads ts (Thg.subL f ts) f :=
  ⟨fun G hG => Thg.subL_cong ts fun n hn => by
    obtain ⟨t, ht⟩ := Option.ne_none_iff_exists'.mp ((h n).mp hn)
    rw [ht]
    show some (G n) = _
    rw [hG n t ht], h⟩
structure Mid (B : Bk) (os : List Thg) (n : Nat) : Prop where
  nc : Thg.NcL (BW B) os
  each : ∀ t ∈ os, t.sz ≤ 2300 ∧ t.dp ≤ 20
  sz : Thg.szL os ≤ 9100
  len : os.length = n
def IsMid (B : Bk) (n : Nat) : VP := fun v H => ∃ o zs os, v = .ref o ∧ H o = some (.tup zs) ∧ Tvs H zs os ∧ Mid B os n
theorem IsMid.monT {B : Bk} {n : Nat} : MonT (IsMid B n) := fun v H H' e ⟨o, zs, os, h1, h2, h3, h4⟩ => ⟨o, zs, os, h1, e _ _ h2, h3.mono e, h4⟩
theorem szB3' : szB 3 = 67 := rfl
theorem szL67 {B : Bk} {ts : List Thg} (th : ∀ t ∈ ts, ThOk B 3 t) (hl : ts.length ≤ 4) : Thg.szL ts ≤ 268 := by
  have := szL_le (M := 67) (ts := ts) fun t ht => (th t ht).sz
  have a : 67 * ts.length ≤ 67 * 4 := Nat.mul_le_mul_left _ hl
  omega
theorem ncT {B : Bk} {ts : List Thg} (th : ∀ t ∈ ts, ThOk B 3 t) : Thg.NcL (BW B) ts := Thg.NcL.of fun t ht => (th t ht).nc
theorem mid_th {B : Bk} {ts : List Thg} {n : Nat} (th : ∀ t ∈ ts, ThOk B 3 t) (hl : ts.length = n) (h4 : n ≤ 4) : Mid B ts n :=
  ⟨ncT th, fun t ht => ⟨Nat.le_trans (th t ht).sz (by decide), Nat.le_trans (th t ht).dp (by decide)⟩, Nat.le_trans (szL67 th (by omega)) (by decide), hl⟩
/-- what is filled with drawn things -/
theorem sub_mid {B : Bk} {ts : List Thg} {f : Int → Option Thg} (th : ∀ t ∈ ts, ThOk B 3 t) (hl : ts.length ≤ 4) (hf : ∀ n t, f n = some t → ThOk B 3 t) : Thg.NcL (BW B) (Thg.subL f ts) ∧ (∀ t ∈ Thg.subL f ts, t.sz ≤ 2244 ∧ t.dp ≤ 8) ∧ Thg.szL (Thg.subL f ts) ≤ 9000 ∧ (Thg.subL f ts).length = ts.length := by
  have s1 := szL67 th hl
  refine ⟨Thg.NcL.sub (fun n t h => (hf n t h).nc) (ncT th), fun t ht => ?_, ?_, by rw [subL_map, List.length_map]⟩
  · rw [subL_map] at ht
    obtain ⟨u, hu, rfl⟩ := List.mem_map.mp ht
    have a := Thg.sub_dp (M := 4) (fun n t h => (hf n t h).dp) u
    have b := (th u hu).dp
    have c := Thg.sub_sz (M := 67) (by decide) (fun n t h => (hf n t h).sz) u
    have d := (th u hu).sz
    rw [szB3'] at d
    have e : u.sz * 67 ≤ 67 * 67 := Nat.mul_le_mul_right _ d
    exact ⟨by omega, by omega⟩
  · have := Thg.subL_sz (M := 67) (by decide) (fun n t h => (hf n t h).sz) ts
    have a : Thg.szL ts * 67 ≤ 268 * 67 := Nat.mul_le_mul_right _ s1
    omega
theorem nc_unk {W : Str → Prop} {n : Int} (h0 : 0 ≤ n) (h1 : n < 1000) : (unkT n).Nc W := by
  refine ⟨wordOk_q, (fun _ => ⟨n, rfl, fun _ => ⟨h0, h1⟩⟩), (show n.natAbs < 10 ^ 30 from Nat.lt_of_lt_of_le (show n.natAbs < 1000 by omega) (by decide)), trivial⟩
theorem mid_unk {B : Bk} {k n : Nat} (h : k ≤ 4) (e : k = n) : Mid B ((List.range k).map fun i => unkT (500 + (i : Nat))) n := by
  have sz : ∀ t ∈ (List.range k).map fun i => unkT (500 + (i : Nat)), t.sz ≤ 2 := fun t ht => by
    obtain ⟨i, _, rfl⟩ := List.mem_map.mp ht
    exact Nat.le_of_eq (by simp [unkT, Thg.sz, Thg.szL])
  refine ⟨Thg.NcL.of fun t ht => ?_, fun t ht => ⟨Nat.le_trans (sz t ht) (by decide), ?_⟩, ?_, by rw [List.length_map, List.length_range, e]⟩
  · obtain ⟨i, hi, rfl⟩ := List.mem_map.mp ht
    have := List.mem_range.mp hi
    exact nc_unk (by omega) (by omega)
  · obtain ⟨i, _, rfl⟩ := List.mem_map.mp ht
    simp [unkT, Thg.dp, Thg.dpL]
  · have := szL_le sz
    rw [List.length_map, List.length_range] at this
    omega
theorem matR_to {B : Bk} {H : Hp} {bu o : Addr} {us zs : List V} {ts os : List Thg} {n : Nat} (hb : H bu = some (.tup us)) (tv : Tvs H us ts) (th : ∀ t ∈ ts, ThOk B 3 t) (hl : ts.length = n) (h4 : n ≤ 4) (ho : H o = some (.tup zs)) (tz : Tvs H zs os) (m : Mid B os n) : MatR H bu o us zs ts os (BW B) 134 2300 :=
  ⟨hb, ho, tv, tz, ncT th, m.nc, by rw [hl, m.len], fun t ht => ⟨Nat.le_trans (th t ht).dp (by decide), Nat.le_trans (th t ht).sz (by decide)⟩, fun t ht => ⟨Nat.le_trans (m.each t ht).2 (by decide), Nat.le_trans (m.each t ht).1 (by decide)⟩, Nat.le_trans (szL67 th (by omega)) (by decide), Nat.le_trans m.sz (by decide),
    Few.of_len (by have := (ncT th).unk_sz; have := szL67 th (by omega); omega), by decide, by decide, fun t ht => (m.each t ht).1⟩
theorem matR_of {B : Bk} {H : Hp} {bu o : Addr} {us zs : List V} {ts os : List Thg} {n : Nat} (hb : H bu = some (.tup us)) (tv : Tvs H us ts) (th : ∀ t ∈ ts, ThOk B 3 t) (hl : ts.length = n) (h4 : n ≤ 4) (ho : H o = some (.tup zs)) (tz : Tvs H zs os) (m : Mid B os n) : MatR H o bu zs us os ts (BW B) 1000 67 :=
  ⟨ho, hb, tz, tv, m.nc, ncT th, by rw [hl, m.len], fun t ht => ⟨Nat.le_trans (m.each t ht).2 (by decide), Nat.le_trans (m.each t ht).1 (by decide)⟩, fun t ht => ⟨Nat.le_trans (th t ht).dp (by decide), Nat.le_trans (th t ht).sz (by decide)⟩, Nat.le_trans m.sz (by decide), Nat.le_trans (szL67 th (by omega)) (by decide),
    Few.of_nc m.nc, by decide, by decide, fun t ht => (th t ht).sz⟩
end K03
set_option maxHeartbeats 2000000
namespace K03
open PySem PySem.Spec PyProof.Rows L2 Evl LL
def spDrawn : Sp := fun vs H Q _ => ∃ (l c b : Addr) (B : Bk), vs = [.ref l, .ref b] ∧ HandC H l c ∧ BookAt H b B ∧ B.Ok ∧ ∀ H', Exl l H H' → HandC H' l c → Q (.bl true) H'
theorem perm_ints {ms : List Int} : ∀ {ys : List V}, ys.Perm (ms.map V.int) → ∃ ns : List Int, ys = ns.map V.int ∧ ns.Perm ms := by
  intro ys h
  have go : ∀ {ys : List V}, (∀ y ∈ ys, ∃ n, y = V.int n) → ∃ ns : List Int, ys = ns.map V.int := by
    intro ys
    induction ys with
    | nil => exact fun _ => ⟨[], rfl⟩
    | cons y ys ih =>
      intro k
      obtain ⟨n, rfl⟩ := k y List.mem_cons_self
      obtain ⟨ns, rfl⟩ := ih fun z hz => k z (List.mem_cons_of_mem _ hz)
      exact ⟨n :: ns, rfl⟩
  obtain ⟨ns, rfl⟩ := go fun y hy => by
    obtain ⟨n, _, rfl⟩ := List.mem_map.mp (h.mem_iff.mp hy)
    exact ⟨n, rfl⟩
  refine ⟨ns, rfl, ?_⟩
  have := h.map (fun v : V => match v with | .int n => n | _ => 0)
  rw [List.map_map, List.map_map] at this
  simpa [Function.comp_def] using this
/-- a filling, at g -/
structure FillAt (l : Addr) (B : Bk) (mk : Int → Option Str) (ns : List Int) (H : Hp) (g : Addr) (kvs : List (Key × V)) (f : Int → Option Thg) : Prop where
  gl : g ≠ l
  at_ : H g = some (.dK kvs)
  fv : Fv H kvs f
  key : KeyI kvs
  dom : ∀ n, n ∈ ns ↔ f n ≠ none
  len : kvs.length ≤ 160
  th : ∀ n t, f n = some t → ThOk B 3 t ∧ ∀ k ∈ Thg.unkL [t], mk k ≠ none
  sm : ∀ p ∈ kvs, ∀ n, p.1 = Sum.inl n → n.natAbs < 10 ^ 30
theorem FillAt.mono {l : Addr} {B : Bk} {mk : Int → Option Str} {ns : List Int} {H H' : Hp} {g : Addr} {kvs : List (Key × V)} {f : Int → Option Thg} (h : FillAt l B mk ns H g kvs f) (e : Exl l H H') (st : Stay H H') : FillAt l B mk ns H' g kvs f :=
  ⟨h.gl, e _ _ h.gl h.at_, h.fv.mono st.tup, h.key, h.dom, h.len, h.th, h.sm⟩
theorem fill_of {l : Addr} {B : Bk} {mk m' : Int → Option Str} {ns : List Int} {H : Hp} {g : Addr} {kvs : List (Key × V)} {f : Int → Option Thg} (gl : g ≠ l) (h : H g = some (.dK kvs)) (fv : Fv H kvs f) (key : KeyI kvs) (dom : ∀ n, n ∈ ns ↔ f n ≠ none) (len : kvs.length = ns.length) (nl : ns.length ≤ 160)
    (bd : ∀ n ∈ ns, 0 ≤ n ∧ n < 1000) (gr : Grown m' mk) (th : ∀ n t, f n = some t → ThOk B 3 t ∧ ∀ k ∈ Thg.unkL [t], m' k ≠ none) : FillAt l B mk ns H g kvs f := by
  refine ⟨gl, h, fv, key, dom, by omega, fun n t hf => ⟨(th n t hf).1, fun k hk => ?_⟩, fun p hp n en => ?_⟩
  · obtain ⟨s, hs⟩ := Option.ne_none_iff_exists'.mp ((th n t hf).2 k hk)
    rw [gr k s hs]
    exact fun z => nomatch z
  · have hv : valV kvs (.inl n) = some p.2 := valV_at key.1 (by rw [← en]; exact hp)
    obtain ⟨t, ft, _⟩ := (fv n).1 _ hv
    have := bd n ((dom n).mpr (by rw [ft]; exact fun z => nomatch z))
    exact Nat.lt_of_lt_of_le (show n.natAbs < 1000 by omega) (by decide)
/-- all that was drawn -/
structure DrF (l c b ps bu kn : Addr) (B : Bk) (ss : List Str) (us : List V) (ts : List Thg) (mk : Int → Option Str) (H : Hp) : Prop where
  hand : HandC H l c
  bk : BookAt H b B
  ok : B.Ok
  hps : H ps = some (.tup (ss.map V.str))
  s1 : 1 ≤ ss.length
  s4 : ss.length ≤ 4
  vs : ∀ s ∈ ss, VS B.lists s
  hbu : H bu = some (.tup us)
  tv : Tvs H us ts
  len : ts.length = ss.length
  th : ∀ t ∈ ts, ThOk B 3 t
  knl : kn ≠ l
  knc : kn ≠ c
  own : Own mk H kn
  os : OwnS B.lists mk
theorem DrF.mono {l c b ps bu kn : Addr} {B : Bk} {ss : List Str} {us : List V} {ts : List Thg} {mk : Int → Option Str} {H H' : Hp} (d : DrF l c b ps bu kn B ss us ts mk H) (e : Exl l H H') (hh : HandC H' l c) : DrF l c b ps bu kn B ss us ts mk H' :=
  have st := d.hand.stay e
  { d with hand := hh, bk := d.bk.mono st, hps := st.tup _ _ d.hps, hbu := st.tup _ _ d.hbu, tv := d.tv.mono st.tup, own := d.own.at fun x h => e _ _ d.knl h }
/-- the unknowns of a bundle, all of them filled -/
def Whole (ts : List Thg) (ns : List Int) : Prop := ∀ n, n ∈ ns ↔ n ∈ Thg.unkL ts
def DrM (l c b : Addr) (B : Bk) (H0 : Hp) (σ : L2.St) (H : Hp) : Prop := ∃ (ps bu kn ga gb gc o nb : Addr) (ss : List Str) (us : List V) (ts : List Thg) (mk : Int → Option Str) (n1 ns : List Int) (ka kb kc : List (Key × V)) (fa fb fc : Int → Option Thg),
  σ = [some (.ref l), some (.ref b), some (.ref bu), some (.ref ga), some (.ref gb), some (.ref gc), none, none, some (.ref ps), some (.ref o), some (.ref kn), some (.ref nb), none, none, none, none] ∧ Exl l H0 H ∧ DrF l c b ps bu kn B ss us ts mk H ∧ FillAt l B mk n1 H ga ka fa ∧ FillAt l B mk ns H gb kb fb ∧ FillAt l B mk ns H gc kc fc ∧ Whole ts ns
/-- all of it, as it stays -/
structure DrAll (l c b ps bu kn ga gb gc : Addr) (B : Bk) (ss : List Str) (us : List V) (ts : List Thg) (mk : Int → Option Str) (n1 ns : List Int) (ka kb kc : List (Key × V)) (fa fb fc : Int → Option Thg) (H : Hp) : Prop where
  d : DrF l c b ps bu kn B ss us ts mk H
  a : FillAt l B mk n1 H ga ka fa
  b : FillAt l B mk ns H gb kb fb
  c : FillAt l B mk ns H gc kc fc
  w : Whole ts ns
theorem DrAll.mono {l c b ps bu kn ga gb gc : Addr} {B : Bk} {ss : List Str} {us : List V} {ts : List Thg} {mk : Int → Option Str} {n1 ns : List Int} {ka kb kc : List (Key × V)} {fa fb fc : Int → Option Thg} {H H' : Hp} (h : DrAll l c b ps bu kn ga gb gc B ss us ts mk n1 ns ka kb kc fa fb fc H) (e : Exl l H H') (hh : HandC H' l c) : DrAll l c b ps bu kn ga gb gc B ss us ts mk n1 ns ka kb kc fa fb fc H' :=
  have st := h.d.hand.stay e
  ⟨h.d.mono e hh, h.a.mono e st, h.b.mono e st, h.c.mono e st, h.w⟩
theorem DrAll.ex {l c b ps bu kn ga gb gc : Addr} {B : Bk} {ss : List Str} {us : List V} {ts : List Thg} {mk : Int → Option Str} {n1 ns : List Int} {ka kb kc : List (Key × V)} {fa fb fc : Int → Option Thg} {H H' : Hp} (h : DrAll l c b ps bu kn ga gb gc B ss us ts mk n1 ns ka kb kc fa fb fc H) (e : Ex H H') : DrAll l c b ps bu kn ga gb gc B ss us ts mk n1 ns ka kb kc fa fb fc H' := h.mono (Exl.of e) (h.d.hand.mono e)
theorem DrF.t4 {l c b ps bu kn : Addr} {B : Bk} {ss : List Str} {us : List V} {ts : List Thg} {mk : Int → Option Str} {H : Hp} (d : DrF l c b ps bu kn B ss us ts mk H) : ts.length ≤ 4 := by rw [d.len]; exact d.s4
theorem fill_none {l : Addr} {B : Bk} {mk : Int → Option Str} {H : Hp} {g : Addr} (gl : g ≠ l) (h : H g = some (.dK [])) : FillAt l B mk [] H g [] (fun _ => none) :=
  ⟨gl, h, fun n => ⟨fun v z => (by cases z), fun _ => rfl⟩, ⟨.nil, nofun⟩, fun n => ⟨nofun, fun z => absurd rfl z⟩, by decide, nofun, nofun⟩
section
variable {σ : L2.St} {H : Hp} {l c b ps bu kn : Addr} {B : Bk} {ss : List Str} {us : List V} {ts : List Thg} {mk : Int → Option Str} {ns : List Int} {g : Addr} {kvs : List (Key × V)} {f : Int → Option Thg} {E : XK}
theorem ev_putR (h0 : σ[0]? = some (some (.ref l))) (h2 : σ[2]? = some (some (.ref bu))) (h6 : σ[6]? = some (some (.ref g))) (d : DrF l c b ps bu kn B ss us ts mk H) (F : FillAt l B mk ns H g kvs f) : Ev (tCall spPutR [] E (tCons (tVar 0) (tCons (tVar 2) (tCons (tVar 6) tNil)))) σ H (.bl true) := fun H1 e Q q => by
  have d1 := d.mono (Exl.of e) (d.hand.mono e)
  have F1 := F.mono (Exl.of e) (Stay.ex e)
  obtain ⟨xs, hl⟩ := d1.hand.lst
  exact ⟨_, h0, _, h2, _, h6, l, bu, g, xs, us, ts, kvs, f, B, rfl, hl, d1.hbu, d1.tv, d1.t4, d1.th, F1.at_, F1.fv, F1.key, F1.len, fun n t h => (F1.th n t h).1, F1.sm, fun H2 e2 => q H2 e2⟩
/-- the same, of two bundles -/
theorem ev_matR {i j : Nat} {o p : Addr} {xs zs : List V} {as os : List Thg} {W : Str → Prop} {N Z : Nat} (h1 : σ[i]? = some (some (.ref o))) (h2 : σ[j]? = some (some (.ref p))) (hl : ∃ ys, H l = some (.lst ys)) (m : MatR H o p xs zs as os W N Z) : Ev (tCall spMatR [] E (tCons (tVar i) (tCons (tVar j) tNil))) σ H (.bl true) := fun H1 e Q q => by
  obtain ⟨ys, hl⟩ := hl
  exact ⟨_, h1, _, h2, l, o, p, ys, xs, zs, as, os, W, N, Z, rfl, e _ _ hl, m.mono (TupEx.of e), fun H2 e2 => q H2 e2⟩
end
structure Fdr (P : Program) (w : World) (K : PySem.W.Frag) (mg : Str → Option Value) (base : Heap) : Prop where
  len : mg "len" = none
  dict : mg "dict" = none
  tuple : mg "tuple" = none
  range : mg "range" = none
  sorted : mg "sorted" = none
  all : mg "all" = none
  h_law_draw : Has P w K mg base CX0 "_law_draw" 1 ["hand", "many"] spDraw
  h_law_mixed : Has P w K mg base CX0 "_law_mixed" 2 ["hand", "things"] spMixed
  h_law_sorts : Has P w K mg base CX0 "_law_sorts" 3 ["hand", "book", "most"] spSorts
  h_law_bundle : Has P w K mg base CX0 "_law_bundle" 8 ["hand", "book", "sorts", "deep", "own"] spBundle
  h_law_filling : Has P w K mg base CX0 "_law_filling" 8 ["hand", "book", "own", "numbers", "known"] spFilling
  h_law_filled : Has P w K mg base CX0 "_law_filled" 211 ["bundle", "filling"] spLFilled
  hmatched : Has P w K mg base CX0 "matched" 3 ["bundle", "other"] spMatched
  h_law_shown : HasG P w K mg base CX0 "_law_shown" 5 ["filling"] spShown
  h_law_is_put_right : HasG P w K mg base CX0 "_law_is_put_right" 212 ["hand", "bundle", "filling"] spPutR
  h_law_is_matched_right : HasG P w K mg base CX0 "_law_is_matched_right" 7 ["bundle", "other"] spMatR
  h_law_otherwise : Has P w K mg base CX0 "_law_otherwise" 181 ["hand", "book", "bundle", "known"] spOther
section
variable {P : Program} {w : World} {K : PySem.W.Frag} {mg : Str → Option Value} {base : Heap} {f : Addr} {fd : FuncData}
theorem scDrawn : FnScope ["hand", "book", "bundle", "some", "whole", "use", "filling", "others", "sorts", "own", "known", "numbers", "there", "again", "other", "at"] ["hand", "book"] (defScope (top 33)) := ⟨rfl, rfl, rfl, by decide +kernel, rfl, by decide +kernel, by decide +kernel⟩
theorem ok_drawn (F : FnT K "_law_is_drawn_right" (top 33) f fd) (T : Fdr P w K mg base) : FnG P w K mg base CX0 214 f fd ["hand", "book"] spDrawn := by
  have sc := scDrawn
  refine fnG_of F scDrawn (fun {vs H Q E} h => ?_) (fun cdv A outer s H vs Q E hg hr h => ?_)
  · obtain ⟨_, _, _, _, rfl, _⟩ := h
    rfl
  have hG := guards_deeper (env := envOfC "_law_is_drawn_right" (defScope (top 33)) s.heap.objs.size f cdv) hg
  refine ⟨_, PSs.nox (pss_cons (ps_asg (pe_tup (pa_cons (pe_callH T.h_law_sorts hr pass0 (pa_cons (pv 0) (pa_cons (pv 1) (pa_cons pe_int pa_nil)))) (pa_cons pe_dnewK pa_nil))) (pg_tup rfl (pgs_cons (pg_name (i := 8) sc.nd rfl (Or.inr rfl)) (pgs_cons (pg_name (i := 9) sc.nd rfl (Or.inl rfl)) pgs_nil))))
      (pss_cons (ps_set (i := 2) sc.nd rfl (Or.inr rfl) (pe_callH T.h_law_bundle hr pass0 (pa_cons (pv 0) (pa_cons (pv 1) (pa_cons (pv 8) (pa_cons pe_int (pa_cons (pv 9) pa_nil)))))))
      (pss_cons (ps_par (i := 10) (j := 11) (by rfl) sc.nd rfl rfl (by decide) rfl rfl (pa_cons (pe_callTy call_dictD (by rfl) T.dict (by decide +kernel) (pa_cons (pv 9) pa_nil)) (pa_cons (pe_callH T.h_law_mixed hr pass0 (pa_cons (pv 0) (pa_cons (pe_callB (cr_sortedD rfl) (by rfl) T.sorted (by decide +kernel) (pa_cons (pv 9) pa_nil)) pa_nil))) pa_nil)) (by rfl))
      (pss_cons (ps_set (i := 3) sc.nd rfl (Or.inl rfl) (pe_callH T.h_law_filling hr pass0 (pa_cons (pv 0) (pa_cons (pv 1) (pa_cons (pv 9) (pa_cons (pe_slice sl_list (pv 11) po_none (po_some (pe_callH T.h_law_draw hr pass0 (pa_cons (pv 0) (pa_cons (pe_op op_add (pe_callB call_len (by rfl) T.len (by decide +kernel) (pa_cons (pv 11) pa_nil)) pe_int) pa_nil))))) (pa_cons (pv 10) pa_nil)))))))
      (pss_cons (ps_set (i := 4) sc.nd rfl (Or.inl rfl) (pe_callH T.h_law_filling hr pass0 (pa_cons (pv 0) (pa_cons (pv 1) (pa_cons (pv 9) (pa_cons (pv 11) (pa_cons (pv 10) pa_nil)))))))
      (pss_cut (ps_set (i := 5) sc.nd rfl (Or.inl rfl) (pe_callH T.h_law_filling hr pass0 (pa_cons (pv 0) (pa_cons (pv 1) (pa_cons (pv 9) (pa_cons (pv 11) (pa_cons pe_non pa_nil)))))))
      (pss_cons (ps_for PassesOwn.never rfl (pi_tup (pe_tup (pa_cons pe_dnewK (pa_cons (pv 3) (pa_cons (pv 4) (pa_cons (pv 5) pa_nil)))))) (pg_name (i := 6) sc.nd rfl (Or.inl rfl)) (pss_one (ps_if (pt_not (pt_val (pe_callHG T.h_law_is_put_right hG hr pass0 (pa_cons (pv 0) (pa_cons (pv 2) (pa_cons (pv 6) pa_nil)))))) (pss_one (ps_ret pe_bl)) pss_nil)))
      (pss_cons (ps_for PassesOwn.never rfl (pi_tup (pe_tup (pa_cons (pv 4) (pa_cons (pv 5) pa_nil)))) (pg_name (i := 6) sc.nd rfl (Or.inl rfl)) (pss_cons (ps_set (i := 12) sc.nd rfl (Or.inl rfl) (pe_callH T.h_law_filled hr pass0 (pa_cons (pv 2) (pa_cons (pv 6) pa_nil))))
      (pss_cons (ps_if (PW.pt (pw_or (pt_cmpR op_ne (pe_callHG T.h_law_shown hG hr pass0 (pa_cons (pe_callH T.hmatched hr pass0 (pa_cons (pv 2) (pa_cons (pv 12) pa_nil))) pa_nil)) (pe_callHG T.h_law_shown hG hr pass0 (pa_cons (pv 6) pa_nil)) (nomark _)) (pw_or1 (pt_not (pt_val (pe_callHG T.h_law_is_matched_right hG hr pass0 (pa_cons (pv 2) (pa_cons (pv 12) pa_nil)))))))) (pss_one (ps_ret pe_bl)) pss_nil)
      (pss_one (ps_for PassesOwn.never rfl (pi_range1 (by rfl) T.range (pa_cons pe_int pa_nil)) (pg_name (i := 13) sc.nd rfl (Or.inl rfl)) (pss_one (ps_if (pt_not (pt_val (pe_callHG T.h_law_is_matched_right hG hr pass0 (pa_cons (pv 2) (pa_cons (pe_callH T.h_law_otherwise hr pass0 (pa_cons (pv 0) (pa_cons (pv 1) (pa_cons (pv 12) (pa_cons (pv 10) pa_nil))))) pa_nil))))) (pss_one (ps_ret pe_bl)) pss_nil)))))))
      (pss_cons (ps_setLc (i := 7) (own := [("again", 13)]) (tt := tYes) rfl sc.nd rfl rfl (sw_true rfl rfl rfl (by decide +kernel)) (pi_range1 (by rfl) T.range (pa_cons pe_int pa_nil)) (blkOk_by (N := ["hand", "book", "bundle", "some", "whole", "use", "filling", "others", "sorts", "own", "known", "numbers", "there", "again", "other", "at"]) (sc := defScope (top 33)) (by decide +kernel)) (fun _ _ _ _ _ => (pg_name (i := 13) sc.nd rfl (Or.inl rfl))) (fun _ _ _ _ _ => pts_nil) (fun _ _ _ _ _ => (pe_callH T.h_law_bundle hr pass0 (pa_cons (pv 0) (pa_cons (pv 1) (pa_cons (pv 8) (pa_cons pe_int (pa_cons pe_dnewK pa_nil))))))))
      (pss_cons (ps_set (i := 7) sc.nd rfl (Or.inl rfl) (pe_op op_cat (pv 7) (pe_lst (pa_cons (pe_callH T.h_law_filled hr pass0 (pa_cons (pv 2) (pa_cons (pv 3) pa_nil))) (pa_cons (pv 2) (pa_cons (pe_callTy call_tuple_of (by rfl) T.tuple (by decide +kernel) (pa_cons (pe_lc (own := [("at", 15)]) (tt := tYes) rfl sc.nd (pi_range1 (by rfl) T.range (pa_cons (pe_callB call_len (by rfl) T.len (by decide +kernel) (pa_cons (pv 8) pa_nil)) pa_nil)) (blkOk_by (N := ["hand", "book", "bundle", "some", "whole", "use", "filling", "others", "sorts", "own", "known", "numbers", "there", "again", "other", "at"]) (sc := defScope (top 33)) (by decide +kernel)) (fun _ _ _ _ _ => (pg_name (i := 15) sc.nd rfl (Or.inl rfl))) (fun _ _ _ _ _ => pts_nil) (fun _ _ _ _ _ => (pe_tup (pa_cons pe_str (pa_cons (pe_op op_add pe_int (pv 15)) pa_nil))))) pa_nil)) pa_nil))))))
      (pss_one (ps_ret (pe_callB (cr_all rfl) (by rfl) T.all (by decide +kernel) (pa_cons (pe_lc (own := [("other", 14)]) (tt := tYes) rfl sc.nd (pi_list (pv 7)) (blkOk_by (N := ["hand", "book", "bundle", "some", "whole", "use", "filling", "others", "sorts", "own", "known", "numbers", "there", "again", "other", "at"]) (sc := defScope (top 33)) (by decide +kernel)) (fun _ _ _ _ _ => (pg_name (i := 14) sc.nd rfl (Or.inl rfl))) (fun _ _ _ _ _ => pts_nil) (fun _ _ _ _ _ => (pe_and (pe_callHG T.h_law_is_matched_right hG hr pass0 (pa_cons (pv 2) (pa_cons (pv 14) pa_nil))) (pe_one (pe_callHG T.h_law_is_matched_right hG hr pass0 (pa_cons (pv 14) (pa_cons (pv 2) pa_nil))))))) pa_nil)))))))))))))), ?_⟩
  obtain ⟨l, c, b, B, rfl, hh, hb, ok, k⟩ := h
  refine ⟨_, rfl, _, rfl, l, c, b, B, 4, rfl, by decide, by decide, hh, hb, ok, fun ps ss H1 hps s1 s4 vss e1 hh1 => fun o ho => ⟨by show 2 ≤ sizeLine; decide, fun tp htp => ⟨tp, _, rfl, st_of upd_same, rfl, _, _, rfl, _, _, rfl, rfl, ?_⟩⟩⟩
  obtain ⟨ol, oc⟩ := hh1.new ho
  have e2 : Ex H1 (L2.upd (L2.upd H1 o (.dK [])) tp (.tup [.ref ps, .ref o])) := (Ex.new ho).trans (Ex.new htp)
  have ho2 : L2.upd (L2.upd H1 o (.dK [])) tp (.tup [.ref ps, .ref o]) o = some (.dK []) := (Ex.new htp) _ _ upd_same
  revert e2 ho2
  generalize L2.upd (L2.upd H1 o (.dK [])) tp (.tup [.ref ps, .ref o]) = H2
  intro e2 ho2
  have hh2 := hh1.mono e2
  have st02 : Stay H H2 := (hh.stay e1).trans (Stay.ex e2)
  have x02 : Exl l H H2 := e1.trans (Exl.of e2)
  have on : H o = none := exl_none e1 ol ho
  have own0 : Own (fun _ => none) H2 o := ⟨[], ho2, ⟨.nil, nofun⟩, fun n => rfl, fun n h => absurd rfl h⟩
  dsimp only
  refine q_asgQ ?_
  refine ⟨_, rfl, _, rfl, _, rfl, _, rfl, l, c, b, B, ps, ss, .ref o, o, fun _ => none, rfl, e2 _ _ hps, by omega, vss, hh2, hb.mono st02, ok, .inr ⟨rfl, ol, oc, own0⟩, nofun, fun bu us ts m H3 ex3 hh3 ow3 os3 gr3 dm3 hbu tv tlen th => ?_⟩
  have off2 : Off l o H2 := ⟨hh2.lst, .inr (.inl ⟨_, ho2⟩)⟩
  have st03 : Stay H H3 := st02.trans (ex3.stay off2)
  have x03 : Exl l H H3 := exl_exo x02 ex3 on
  have own3 : Own m H3 o := by
    rcases ow3 with ⟨z, _, _⟩ | ⟨_, _, _, z⟩
    · cases z
    · exact z
  have hps3 : H3 ps = some (.tup (ss.map V.str)) := (ex3.stay off2).tup _ _ (e2 _ _ hps)
  have dmu : ∀ n, m n ≠ none ↔ n ∈ Thg.unkL ts := fun n => by rw [dm3 n]; simp
  obtain ⟨kvs, ho3, key, hv, hbd⟩ := own3
  obtain ⟨ns0, hns⟩ := nums_of key.2
  have nd0 : ns0.Nodup := by
    have := key.1
    rw [hns] at this
    exact List.Pairwise.of_map Sum.inl (fun a b h e => h (by rw [e])) this
  have mem0 : ∀ n, n ∈ ns0 ↔ m n ≠ none := fun n => by
    rw [mem_key hns, hv n]
    cases m n <;> simp
  have nc : Thg.NcL (BW B) ts := Thg.NcL.of fun t ht => (th t ht).nc
  have szt : Thg.szL ts ≤ 268 := by
    have := szL_le (M := 67) (ts := ts) fun t ht => (th t ht).sz
    have a : 67 * ts.length ≤ 67 * 4 := Nat.mul_le_mul_left _ (by omega)
    omega
  have few : Few ts 134 := Few.of_len (by have := nc.unk_sz; omega)
  have nl0 : ns0.length ≤ 134 := few ns0 nd0 fun n hn => (dmu n).mp ((mem0 n).mp hn)
  refine ⟨_, rfl, o, kvs, rfl, .inl ho3, fun kn hkn => ?_⟩
  obtain ⟨knl, knc⟩ := hh3.new hkn
  have ek := Ex.new (o := .dK kvs) hkn
  have hkk : L2.upd H3 kn (.dK kvs) kn = some (.dK kvs) := upd_same
  revert ek hkk
  generalize L2.upd H3 kn (.dK kvs) = H4
  intro ek hkk
  refine ⟨_, rfl, _, rfl, o, kvs, ns0, rfl, ek _ _ ho3, hns, fun ms q pm so hq => ?_⟩
  have hh4 := hh3.mono ek
  have nlm : ms.length ≤ 134 := by rw [pm.length_eq]; exact nl0
  refine ⟨l, c, q, ms.map V.int, rfl, (hh4.new hq).1, upd_same, by rw [List.length_map]; omega, hh4.mono (Ex.new hq), fun nb ys H5 pmy nnb x5 hh5 hnb => ⟨_, _, rfl, ?_⟩⟩
  obtain ⟨ns, rfl, pmn⟩ := perm_ints pmy
  have nbl : nb ≠ l := ((hh4.mono (Ex.new hq)).new nnb).1
  have x35 : Exl l H3 H5 := (Exl.of (ek.trans (Ex.new hq))).trans x5
  have st35 : Stay H3 H5 := hh3.stay x35
  have hkn5 : H5 kn = some (.dK kvs) := x5 _ _ knl ((Ex.new hq) _ _ hkk)
  have ho5 := x35 _ _ ol ho3
  have onk : o ≠ kn := fun z => by rw [z, hkn] at ho3; cases ho3
  have nbk : nb ≠ kn := fun z => by rw [z, hkn5] at hnb; cases hnb
  have nd : ns.Nodup := (pmn.trans pm).nodup_iff.mpr nd0
  have memn : ∀ n, n ∈ ns ↔ m n ≠ none := fun n => by rw [(pmn.trans pm).mem_iff]; exact mem0 n
  have nln : ns.length ≤ 134 := by rw [pmn.length_eq]; exact nlm
  have bdn : ∀ n ∈ ns, 0 ≤ n ∧ n < 1000 := fun n hn => hbd n ((memn n).mp hn)
  have st05 := st03.trans st35
  dsimp only
  refine q_asgQ ?_
  refine ⟨_, rfl, _, rfl, _, rfl, _, rfl, _, rfl, _, rfl, _, _, rfl, .inl ⟨_, sq_of hnb, rfl⟩, _, 1, rfl, rfl, l, c, _, rfl, by rw [List.length_map]; omega, by rw [List.length_map]; omega, hh5, fun k1 H6 g0 g1 e6 hh6 => ⟨k1, rfl, nb, _, rfl, sq_of (e6 _ _ nbl hnb), fun sl hsl => ⟨_, rfl, ?_⟩⟩⟩
  obtain ⟨k1, rfl⟩ : ∃ k : Nat, k1 = (k : Int) := ⟨k1.toNat, by omega⟩
  rw [List.length_map] at g1
  have x56 : Exl l H5 (L2.upd H6 sl (.lst (cutV (ns.map V.int) none (some (k1 : Int))))) := e6.trans (Exl.of (Ex.new hsl))
  have hsl6 : L2.upd H6 sl (.lst (cutV (ns.map V.int) none (some (k1 : Int)))) sl = some (.lst ((ns.take k1).map V.int)) := by
    rw [cut_to (by rw [List.length_map]; omega), ← List.map_take]
    exact upd_same
  have hh7 := hh6.mono (Ex.new (o := .lst (cutV (ns.map V.int) none (some (k1 : Int)))) hsl)
  obtain ⟨sll, slc⟩ := hh6.new hsl
  have hknS := e6 _ _ knl hkn5
  have slk : sl ≠ kn := fun z => by rw [z, hknS] at hsl; cases hsl
  revert x56 hsl6 hh7
  generalize L2.upd H6 sl (.lst (cutV (ns.map V.int) none (some (k1 : Int)))) = H7
  intro x56 hsl6 hh7
  have st57 := hh5.stay x56
  have ownk : ∀ {G}, Exl l H5 G → OwnV l c (.ref kn) kn m G := fun e => .inr ⟨rfl, knl, knc, kvs, e _ _ knl hkn5, key, hv, hbd⟩
  refine ⟨l, c, b, B, o, sl, ns.take k1, .ref kn, kn, m, m, rfl, ol, onk, ⟨kvs, x56 _ _ ol ho5, key, hv, hbd⟩, os3, sll, slk, hsl6, by rw [List.length_take]; omega, nd.sublist (List.take_sublist _ _), fun n hn => (memn n).mp (List.mem_of_mem_take hn), hh7, hb.mono (st05.trans st57), ok, ownk x56, os3, fun ga ka fa ma H8 ex8 hh8 ow8 os8 gr8 gan hga fva keya doma lena tha => ?_⟩
  have knn : H kn = none := exl_none x03 knl hkn
  have ownk8 : Own ma H8 kn := by
    rcases ow8 with ⟨z, _, _⟩ | ⟨_, _, _, z⟩
    · cases z
    · exact z
  have off7 : Off l kn H7 := ⟨hh7.lst, .inr (.inl ⟨kvs, x56 _ _ knl hkn5⟩)⟩
  have st78 := ex8.stay off7
  have st08 := (st05.trans st57).trans st78
  have x08 : Exl l H H8 := exl_exo ((x03.trans x35).trans x56) ex8 knn
  have ho8 := ex8 _ _ ol onk (x56 _ _ ol ho5)
  have hnb8 := ex8 _ _ nbl nbk (x56 _ _ nbl hnb)
  obtain ⟨gal, gac⟩ := hh7.new gan
  have gak : ga ≠ kn := fun z => by rw [z, x56 _ _ knl hkn5] at gan; cases gan
  dsimp only
  refine q_asgQ ?_
  refine ⟨_, rfl, _, rfl, _, rfl, _, rfl, _, rfl, l, c, b, B, o, nb, ns, .ref kn, kn, m, ma, rfl, ol, onk, ⟨kvs, ho8, key, hv, hbd⟩, os3, nbl, nbk, hnb8, by omega, nd, fun n hn => (memn n).mp hn, hh8, hb.mono st08, ok, ow8, os8, fun gb kb fb mb H9 ex9 hh9 ow9 os9 gr9 gbn hgb fvb keyb domb lenb thb => ?_⟩
  have off8 : Off l kn H8 := by obtain ⟨kv2, z, _⟩ := ownk8; exact ⟨hh8.lst, .inr (.inl ⟨kv2, z⟩)⟩
  have st89 := ex9.stay off8
  have st09 := st08.trans st89
  have x09 : Exl l H H9 := exl_exo x08 ex9 knn
  have ho9 := ex9 _ _ ol onk ho8
  have hnb9 := ex9 _ _ nbl nbk hnb8
  obtain ⟨gbl, gbc⟩ := hh8.new gbn
  have ownk9 : Own mb H9 kn := by
    rcases ow9 with ⟨z, _, _⟩ | ⟨_, _, _, z⟩
    · cases z
    · exact z
  dsimp only
  refine q_cut (M := DrM l c b B H) ?draws ?rest
  case rest =>
    rintro σ0 H0 ⟨ps, bu, kn, ga, gb, gc, o, nb, ss, us, ts, mk, n1, ns, ka, kb, kc, fa, fb, fc, rfl, x0, d0, a0, b0, c0, w0⟩
    have A0 : DrAll l c b ps bu kn ga gb gc B ss us ts mk n1 ns ka kb kc fa fb fc H0 := ⟨d0, a0, b0, c0, w0⟩
    clear d0 a0 b0 c0
    refine fun nd hnd => ⟨_, rfl, _, rfl, _, rfl, by show 4 ≤ sizeLine; decide, fun tp htp => ⟨tp, rfl, ⟨_, st_of upd_same⟩, ?_⟩⟩
    have e01 : Ex H0 (L2.upd (L2.upd H0 nd (.dK [])) tp (.tup [.ref nd, .ref ga, .ref gb, .ref gc])) := (Ex.new hnd).trans (Ex.new htp)
    have hnd1 : L2.upd (L2.upd H0 nd (.dK [])) tp (.tup [.ref nd, .ref ga, .ref gb, .ref gc]) nd = some (.dK []) := (Ex.new htp) _ _ upd_same
    have htp1 : L2.upd (L2.upd H0 nd (.dK [])) tp (.tup [.ref nd, .ref ga, .ref gb, .ref gc]) tp = some (.tup [.ref nd, .ref ga, .ref gb, .ref gc]) := upd_same
    have ndl := (A0.d.hand.new hnd).1
    revert e01 hnd1 htp1
    generalize L2.upd (L2.upd H0 nd (.dK [])) tp (.tup [.ref nd, .ref ga, .ref gb, .ref gc]) = H1
    intro e01 hnd1 htp1
    have A1 := A0.ex e01
    have N1 : FillAt l B mk [] H1 nd [] (fun _ => none) := fill_none ndl hnd1
    refine for_it (walk_tup (xs := [.ref nd, .ref ga, .ref gb, .ref gc])) (fun i σ' H' => ∃ x6, σ' = [some (.ref l), some (.ref b), some (.ref bu), some (.ref ga), some (.ref gb), some (.ref gc), x6, none, some (.ref ps), some (.ref o), some (.ref kn), some (.ref nb), none, none, none, none] ∧ Ex H1 H') ?_ ?_ ?_ ?_
    · exact ⟨_, rfl, Ex.refl H1⟩
    · rintro i σ' H' hi ⟨x6, rfl, ex⟩
      exact st_of (ex _ _ htp1)
    · rintro i x σ' H' H'' hi ⟨x6, rfl, ex⟩ ⟨rfl, hx⟩
      have A2 := A1.ex ex
      have N2 := N1.mono (Exl.of ex) (Stay.ex ex)
      have hf : ∃ g ms kvs f, x = .ref g ∧ FillAt l B mk ms H'' g kvs f := by
        have hm := List.mem_of_getElem? hx
        simp only [List.mem_cons, List.not_mem_nil, or_false] at hm
        rcases hm with rfl | rfl | rfl | rfl
        · exact ⟨_, _, _, _, rfl, N2⟩
        · exact ⟨_, _, _, _, rfl, A2.a⟩
        · exact ⟨_, _, _, _, rfl, A2.b⟩
        · exact ⟨_, _, _, _, rfl, A2.c⟩
      obtain ⟨g, ms, kvs, f, rfl, F2⟩ := hf
      refine s_when (et_not (et_B (ev_putR rfl rfl rfl A2.d F2))) (fun z => nomatch z) (fun _ H3 e3 => ⟨_, rfl, ex.trans e3⟩)
    · rintro σ' H' ⟨x6, rfl, ex⟩
      have A2 := A1.ex ex
      have x02 : Exl l H H' := x0.trans (Exl.of (e01.trans ex))
      clear A0 A1 N1 x0 e01 ex hnd1 htp1 htp hnd
      clear H1
      revert A2 x02
      generalize H' = H0
      intro A0 x0
      refine ⟨_, rfl, _, rfl, by show 2 ≤ sizeLine; decide, fun tp htp => ⟨tp, rfl, ⟨_, st_of upd_same⟩, ?_⟩⟩
      have e01 : Ex H0 (L2.upd H0 tp (.tup [.ref gb, .ref gc])) := Ex.new htp
      have htp1 : L2.upd H0 tp (.tup [.ref gb, .ref gc]) tp = some (.tup [.ref gb, .ref gc]) := upd_same
      revert e01 htp1
      generalize L2.upd H0 tp (.tup [.ref gb, .ref gc]) = H1
      intro e01 htp1
      have A1 := A0.ex e01
      refine for_it (walk_tup (xs := [.ref gb, .ref gc])) (fun i σ' H' => ∃ x6 x12 x13, σ' = [some (.ref l), some (.ref b), some (.ref bu), some (.ref ga), some (.ref gb), some (.ref gc), x6, none, some (.ref ps), some (.ref o), some (.ref kn), some (.ref nb), x12, x13, none, none] ∧ Exl l H1 H' ∧ HandC H' l c) ?_ ?_ ?_ ?_
      · exact ⟨_, _, _, rfl, Exl.refl l H1, A1.d.hand⟩
      · rintro i σ' H' hi ⟨x6, x12, x13, rfl, ex, hh2⟩
        exact st_of ((A1.d.hand.stay ex).tup _ _ htp1)
      · rintro i x σ' H' H'' hi ⟨x6, x12, x13, rfl, ex, hh2⟩ ⟨rfl, hx⟩
        have A2 := A1.mono ex hh2
        have hf : ∃ g kvs f, x = .ref g ∧ FillAt l B mk ns H'' g kvs f := by
          have hm := List.mem_of_getElem? hx
          simp only [List.mem_cons, List.not_mem_nil, or_false] at hm
          rcases hm with rfl | rfl
          · exact ⟨_, _, _, rfl, A2.b⟩
          · exact ⟨_, _, _, rfl, A2.c⟩
        obtain ⟨g, kvs, f, rfl, F2⟩ := hf
        have nc := ncT A2.d.th
        have s67 := szL67 A2.d.th A2.d.t4
        obtain ⟨m1, m2, m3, m4⟩ := sub_mid A2.d.th A2.d.t4 fun n t h => (F2.th n t h).1
        have mid : Mid B (Thg.subL f ts) ts.length := ⟨m1, fun t ht => ⟨Nat.le_trans (m2 t ht).1 (by decide), Nat.le_trans (m2 t ht).2 (by decide)⟩, Nat.le_trans m3 (by decide), m4⟩
        have ld : Leads ts (Thg.subL f ts) f := leads_fill fun n => (A2.w n).symm.trans (F2.dom n)
        have pl := Thg.preL_sz ts
        refine q_asgQ ?_
        refine ⟨_, rfl, _, rfl, bu, g, us, ts, kvs, f, rfl, A2.d.hbu, A2.d.tv, nc.wf, Nat.le_trans (deps_dp fun t ht => (A2.d.th t ht).dp) (by decide), by omega, F2.at_, F2.fv, fun th zs H3 e3 hth tz3 => ?_⟩
        dsimp only
        have A3 := A2.ex e3
        have F3 := F2.mono (Exl.of e3) (Stay.ex e3)
        have M3 := matR_to A3.d.hbu A3.d.tv A3.d.th rfl A3.d.t4 hth tz3 mid
        have K3 : Keeps H3 g kvs f := keeps_of M3.nt M3.no M3.few M3.n1 M3.nz M3.z (fun t ht => Nat.le_trans (m2 t ht).2 (by decide)) (fun t ht => Nat.le_trans (m2 t ht).1 (by decide)) F3.at_ F3.fv F3.key ld.1 ld.2
        obtain ⟨ms, nb2⟩ := numbers_ex K3
        refine q_when (b := false) (et_is (et_or (a := false) (b := false) (et_is (et_test (ev_op (ev_shown nb2 (x_matched rfl rfl M3 ld) (fun v H' e' hv => by obtain ⟨g3, kvs3, h1, _, h2⟩ := hv; exact ⟨g3, kvs3, h1, h2⟩)) (ev_shown nb2 (x_of (ev_var rfl)) (fun v H' e' hv => ⟨g, kvs, hv, K3.mono e'⟩)) (rv_ne rfl))) (by simp)) (fun _ => et_is (et_not (a := true) (et_B (ev_matR rfl rfl A3.d.hand.lst M3))) rfl)) rfl) (fun z => nomatch z) (fun _ H4 e4 => ?_)
        have A4 := A3.ex e4
        have x14 : Exl l H1 H4 := ex.trans (Exl.of (e3.trans e4))
        have dmS : ∀ n ∈ Thg.unkL (Thg.subL f ts), mk n ≠ none := fun n hn => by
          rcases Thg.unk_subL nc n hn with ⟨q1, q2⟩ | ⟨k1, _, u, q1, q2⟩
          · exact absurd q2 ((ld.2 n).mp q1)
          · exact (F2.th k1 u q1).2 n q2
        refine ⟨3, rfl, by decide, by decide, ?_⟩
        refine for_it (walk_range (lo := 0) (n := 3)) (fun i σ' H' => ∃ x13, σ' = [some (.ref l), some (.ref b), some (.ref bu), some (.ref ga), some (.ref gb), some (.ref gc), some (.ref g), none, some (.ref ps), some (.ref o), some (.ref kn), some (.ref nb), some (.ref th), x13, none, none] ∧ Exl l H4 H' ∧ HandC H' l c) ?_ ?_ ?_ ?_
        · exact ⟨_, rfl, Exl.refl l H4, A4.d.hand⟩
        · exact fun _ _ _ _ _ => trivial
        · rintro i5 x5 σ5 H5 H5' hi5 ⟨x13, rfl, ex5, hh5⟩ ⟨rfl, _⟩
          have A5 := A4.mono ex5 hh5
          have st35 : Stay H3 H5' := (Stay.ex e4).trans (A4.d.hand.stay ex5)
          refine ⟨_, rfl, _, rfl, _, rfl, _, rfl, _, rfl, l, c, b, B, th, zs, Thg.subL f ts, kn, mk, rfl, A5.d.hand, A5.d.bk, A5.d.ok, st35.tup _ _ hth, tz3.mono st35.tup, (fun z => by rw [z] at m4; have := A5.d.len; have := A5.d.s1; simp at m4; omega), by omega, dpL_le fun t ht => Nat.le_trans (m2 t ht).2 (by decide), m1, A5.d.knl, A5.d.knc, A5.d.own, A5.d.os, dmS, fun r us' ts' H6 x6' hh6 hr tv6 len6 nc6 sz6 ev6 => ?_⟩
          have A6 := A5.mono x6' hh6
          have mid6 : Mid B ts' ts.length := ⟨nc6, fun t ht => by
            obtain ⟨u0, h0, h1, h2⟩ := ev6 t ht
            have := m2 u0 h0
            omega, by omega, by rw [len6, m4]⟩
          obtain ⟨ys, hl6⟩ := hh6.lst
          exact ⟨l, bu, r, ys, us, us', ts, ts', _, _, _, rfl, hl6, matR_to A6.d.hbu A6.d.tv A6.d.th rfl A6.d.t4 hr tv6 mid6, fun H7 e7 => ⟨true, rfl, _, rfl, ex5.trans (x6'.trans (Exl.of e7)), hh6.mono e7⟩⟩
        · rintro σ5 H5 ⟨x13, rfl, ex5, hh5⟩
          exact ⟨_, _, _, rfl, x14.trans ex5, hh5⟩
      · rintro σ' H' ⟨x6, x12, x13, rfl, ex, hh2⟩
        have A2 := A1.mono ex hh2
        have x02 : Exl l H H' := x0.trans ((Exl.of e01).trans ex)
        clear A0 A1 x0 e01 ex htp1 htp
        clear H1
        revert A2 x02 hh2
        generalize H' = H0
        intro hh2 A0 x0
        refine ⟨3, rfl, by decide, by decide, fun Dl hD => ?_⟩
        obtain ⟨dl, dc⟩ := A0.d.hand.new hD
        refine lcY (walk_range (lo := 0) (n := 3)) (fun j zs G => (∀ v ∈ zs, IsMid B ts.length v G) ∧ Exl l H0 G ∧ HandC G l c) ?_ (fun _ => rfl) (fun _ _ _ _ _ => trivial) ?_ ?_
        · exact ⟨nofun, Exl.own (Exl.refl l H0) hD, A0.d.hand.own dl dc⟩
        · rintro j z zs G G' hj lz hDl ⟨hm, exg, hhg⟩ ⟨rfl, _⟩
          have A2 := A0.mono exg hhg
          refine ⟨_, rfl, _, rfl, _, rfl, fun od hod => ?_⟩
          obtain ⟨odl, odc⟩ := hhg.new hod
          have eo := Ex.new (o := .dK []) hod
          have A3 := A2.ex eo
          have ho3 : L2.upd G' od (.dK []) od = some (.dK []) := upd_same
          refine ⟨l, c, b, B, ps, ss, .ref od, od, fun _ => none, rfl, A3.d.hps, by have := A3.d.s4; omega, A3.d.vs, A3.d.hand, A3.d.bk, A3.d.ok, .inr ⟨rfl, odl, odc, [], ho3, ⟨.nil, nofun⟩, fun n => rfl, fun n h => absurd rfl h⟩, nofun, fun r us2 ts2 m2 H4 x4 hh4 ow4 os4 gr4 dm4 hr tv4 len4 th4 => ?_⟩
          have st34 := x4.stay ⟨A3.d.hand.lst, .inr (.inl ⟨_, ho3⟩)⟩
          have xg4 : Exl l G' H4 := exl_exo (Exl.of eo) x4 hod
          have stg : Stay G' H4 := hhg.stay xg4
          have hD4 := xg4 _ _ dl hDl
          have stD := Stay.lst (x := .lst (zs ++ [.ref r])) hD4
          refine NxC.of lz (by omega) hD4 ⟨fun v hv => ?_, Exl.own (exg.trans xg4) hD, hh4.own dl dc⟩
          rcases List.mem_append.mp hv with q | q
          · exact IsMid.monT _ _ _ (stg.trans stD).tup (hm v q)
          · rw [List.mem_singleton.mp q]
            exact ⟨r, us2, ts2, rfl, stD.tup _ _ hr, tv4.mono stD.tup, mid_th th4 (by rw [len4, A0.d.len]) A0.d.t4⟩
        · rintro zs G lz hDl ⟨hm, exg, hhg⟩
          have A2 := A0.mono exg hhg
          have x02 : Exl l H G := x0.trans exg
          clear A0 x0 exg hD dl dc hh2
          clear H0
          revert A2 x02 hhg hDl hm
          generalize G = H0
          intro hDl hm hh2 A0 x0
          unfold gName
          dsimp only
          refine q_asgQ ?_
          have pl := Thg.preL_sz ts
          have s67 := szL67 A0.d.th A0.d.t4
          refine ⟨_, rfl, _, rfl, _, rfl, bu, ga, us, ts, ka, fa, rfl, A0.d.hbu, A0.d.tv, (ncT A0.d.th).wf, Nat.le_trans (deps_dp fun t ht => (A0.d.th t ht).dp) (by decide), by omega, A0.a.at_, A0.a.fv, fun r zs2 H2 e2 hr tv2 => ⟨_, rfl, ?_⟩⟩
          have A2 := A0.ex e2
          obtain ⟨m1, m2, m3, m4⟩ := sub_mid A0.d.th A0.d.t4 fun n t h => (A0.a.th n t h).1
          have mid : Mid B (Thg.subL fa ts) ts.length := ⟨m1, fun t ht => ⟨Nat.le_trans (m2 t ht).1 (by decide), Nat.le_trans (m2 t ht).2 (by decide)⟩, Nat.le_trans m3 (by decide), m4⟩
          refine ⟨_, rfl, _, ss.length, rfl, .inr ⟨_, st_of A2.d.hps, by rw [List.length_map]⟩, ss.length, rfl, by omega, by have := A2.d.s4; omega, fun D3 hD3 => ?_⟩
          refine lcY (walk_range (lo := 0) (n := ss.length)) (fun j ys G => Ex H2 G ∧ Tvs G ys ((List.range j).map fun i => unkT (500 + (i : Nat)))) ?_ (fun _ => rfl) (fun _ _ _ _ _ => trivial) ?_ ?_
          · exact ⟨Ex.new hD3, .nil⟩
          · rintro j z ys G G' hj lz hDl3 ⟨eg, tvg⟩ ⟨rfl, rfl⟩
            refine ⟨_, rfl, _, _, rfl, rfl, by show 2 ≤ sizeLine; decide, fun a ha => ?_⟩
            have ea := Ex.new (o := .tup [.str "?", .int (500 + (0 + (j : Nat)))]) ha
            have hDa := ea _ _ hDl3
            refine NxC.of lz (by have := A2.d.s4; omega) hDa ⟨Ex.mut (eg.trans ea) hD3, ?_⟩
            rw [List.range_succ, List.map_append]
            have stD := Stay.lst (x := .lst (ys ++ [.ref a])) hDa
            refine Tvs.app (.cons (.node (stD.tup _ _ upd_same) (.cons ?_ .nil)) .nil) (tvg.mono ((TupEx.of ea).trans stD.tup))
            rw [Int.zero_add]
            exact .num _
          · rintro ys G lz3 hDl3 ⟨eg, tvg⟩
            refine ⟨D3, ys, rfl, .inl ⟨sq_of hDl3, fun tp htp => ⟨by show 3 ≤ sizeLine; decide, fun q hq => ?_⟩⟩⟩
            have e3 : Ex H2 (L2.upd (L2.upd G tp (.tup ys)) q (.lst [.ref r, .ref bu, .ref tp])) := (eg.trans (Ex.new htp)).trans (Ex.new hq)
            have hq3 : L2.upd (L2.upd G tp (.tup ys)) q (.lst [.ref r, .ref bu, .ref tp]) q = some (.lst [.ref r, .ref bu, .ref tp]) := upd_same
            have htp3 : L2.upd (L2.upd G tp (.tup ys)) q (.lst [.ref r, .ref bu, .ref tp]) tp = some (.tup ys) := (Ex.new hq) _ _ upd_same
            have tvg3 := tvg.mono (TupEx.of ((Ex.new (o := .tup ys) htp).trans (Ex.new (o := .lst [.ref r, .ref bu, .ref tp]) hq)))
            revert e3 hq3 htp3 tvg3
            generalize L2.upd (L2.upd G tp (.tup ys)) q (.lst [.ref r, .ref bu, .ref tp]) = H3
            intro e3 hq3 htp3 tvg3
            have A3 := A2.ex e3
            have e03 := e2.trans e3
            have hDl0 := e03 _ _ hDl
            refine ⟨Dl, q, zs, _, rfl, rfl, hDl0, hq3, sz_of (by simp; omega), fun p hp => ?_⟩
            have e4 := Ex.new (o := .lst (zs ++ [.ref r, .ref bu, .ref tp])) hp
            have hp4 : L2.upd H3 p (.lst (zs ++ [.ref r, .ref bu, .ref tp])) p = some (.lst (zs ++ [.ref r, .ref bu, .ref tp])) := upd_same
            revert e4 hp4
            generalize L2.upd H3 p (.lst (zs ++ [.ref r, .ref bu, .ref tp])) = H4
            intro e4 hp4
            have A4 := A3.ex e4
            have hm4 : ∀ v ∈ zs ++ [.ref r, .ref bu, .ref tp], IsMid B ts.length v H4 := fun v hv => by
              rcases List.mem_append.mp hv with z | z
              · exact IsMid.monT _ _ _ (TupEx.of (e03.trans e4)) (hm v z)
              · simp only [List.mem_cons, List.not_mem_nil, or_false] at z
                rcases z with rfl | rfl | rfl
                · exact ⟨r, zs2, _, rfl, (e3.trans e4) _ _ hr, tv2.mono (TupEx.of (e3.trans e4)), mid⟩
                · exact ⟨bu, us, ts, rfl, A4.d.hbu, A4.d.tv, mid_th A4.d.th rfl A4.d.t4⟩
                · refine ⟨tp, ys, _, rfl, e4 _ _ htp3, tvg3.mono (TupEx.of e4), mid_unk (by have := A4.d.s4; omega) (by rw [A4.d.len])⟩
            dsimp only
            refine ⟨_, rfl, p, rfl, ⟨_, sq_of hp4⟩, fun D4 hD4 => ?_⟩
            refine lcY (walk_list (xs := zs ++ [.ref r, .ref bu, .ref tp])) (fun j ys G => ys = (List.replicate j true).map V.bl ∧ Ex H4 G) ?_ (fun _ => rfl) ?_ ?_ ?_
            · exact ⟨rfl, Ex.new hD4⟩
            · rintro j ys G hj ⟨_, eg4⟩
              exact sq_of (eg4 _ _ hp4)
            · rintro j v ys G G' hj lys hDl4 ⟨rfl, eg4⟩ ⟨rfl, hv⟩
              obtain ⟨o5, zs5, os5, rfl, h5, tv5, mid5⟩ := IsMid.monT _ _ _ (TupEx.of eg4) (hm4 _ (List.mem_of_getElem? hv))
              have A5 := A4.ex eg4
              have M1 := matR_to A5.d.hbu A5.d.tv A5.d.th rfl A5.d.t4 h5 tv5 mid5
              have M2 := matR_of A5.d.hbu A5.d.tv A5.d.th rfl A5.d.t4 h5 tv5 mid5
              refine (ev_is (ev_andV (a := true) (b := true) (ev_matR rfl rfl A5.d.hand.lst M1) (fun _ => ev_matR rfl rfl A5.d.hand.lst M2)) rfl : Ev _ _ _ (.bl true)) G' (Ex.refl G') _ fun H6 e6 => ?_
              have hD6 := e6 _ _ hDl4
              refine NxC.of lys (by simp at hj; omega) hD6 ⟨?_, Ex.mut (eg4.trans e6) hD4⟩
              rw [List.replicate_succ', List.map_append]
              rfl
            · rintro ys G lys hDl4 ⟨rfl, eg4⟩
              refine ⟨D4, _, rfl, sq_of hDl4, ?_⟩
              have : ∀ n : Nat, (List.replicate n true).all id = true := fun n => by simp
              rw [this]
              have A5 := A4.ex eg4
              exact k G (x0.trans (Exl.of ((e2.trans e3).trans (e4.trans eg4)))) A5.d.hand
  refine ⟨_, rfl, _, rfl, _, rfl, _, rfl, l, c, b, B, o, nb, ns, .non, l, m, fun _ => none, rfl, ol, ol, ⟨kvs, ho9, key, hv, hbd⟩, os3, nbl, nbl, hnb9, by omega, nd, fun n hn => (memn n).mp hn, hh9, hb.mono st09, ok, .inl ⟨rfl, rfl, fun _ => rfl⟩, nofun, fun gc kc fc mc H10 ex10 hh10 ow10 os10 gr10 gcn hgc fvc keyc domc lenc thc => ?_⟩
  have x910 : Exl l H9 H10 := ex10.exl rfl
  have st910 := hh9.stay x910
  have st0 := st09.trans st910
  have x0 : Exl l H H10 := x09.trans x910
  obtain ⟨gcl, gcc⟩ := hh9.new gcn
  have ownk : Own mb H10 kn := ownk9.at fun x h => x910 _ _ knl h
  have mcn : ∀ n, mc n = none := by
    rcases ow10 with ⟨_, _, z⟩ | ⟨z, _, _⟩
    · exact z
    · cases z
  have FA : FillAt l B mb (ns.take k1) H10 ga ka fa := fill_of gal (x910 _ _ gal (ex9 _ _ gal gak hga)) (fva.mono (st89.trans st910).tup) keya doma lena (by rw [List.length_take]; omega) (fun n hn => bdn n (List.mem_of_mem_take hn)) gr9 tha
  have FB : FillAt l B mb ns H10 gb kb fb := fill_of gbl (x910 _ _ gbl hgb) (fvb.mono st910.tup) keyb domb lenb (by omega) bdn (Grown.refl mb) thb
  have FC : FillAt l B mb ns H10 gc kc fc := fill_of gcl hgc fvc keyc domc lenc (by omega) bdn (m' := mc) (fun n s h => by rw [mcn n] at h; cases h) thc
  have st310 : Stay H3 H10 := st35.trans ((st57.trans (st78.trans (st89.trans st910))))
  exact ⟨ps, bu, kn, ga, gb, gc, o, nb, ss, us, ts, mb, _, ns, ka, kb, kc, fa, fb, fc, rfl, x0, ⟨hh10, hb.mono st0, ok, st310.tup _ _ hps3, s1, by omega, vss, st310.tup _ _ hbu, tv.mono st310.tup, tlen, th, knl, knc, ownk, os9⟩, FA, FB, FC, fun n => (memn n).trans (dmu n)⟩
end
end K03
set_option maxHeartbeats 16000000
namespace K03
open PySem PySem.Spec PyProof.Rows L2 Evl LL
def chainT : Nat → Thg → Thg
  | 0, t => t
  | n + 1, t => .node "ptr" [chainT n t]
def combT (leaf : Thg) : Nat → Thg → Thg
  | 0, t => t
  | n + 1, t => .node "pair" [.node "pair" [leaf, leaf], combT leaf n t]
def spChain : Sp := fun vs H Q _ => ∃ (n : Nat) (v : V) (t : Thg), vs = [.int (n + 1 : Nat), v] ∧ n ≤ 1000 ∧ Tv H v t ∧ ∀ r H', Ex H H' → Tv H' r (chainT n t) → Q r H'
def spComb : Sp := fun vs H Q _ => ∃ (n : Nat) (u v : V) (l t : Thg), vs = [.int (n : Nat), u, v] ∧ n ≤ 1000 ∧ Tv H u l ∧ Tv H v t ∧ ∀ r H', Ex H H' → Tv H' r (combT l n t) → Q r H'
section
variable {P : Program} {w : World} {K : PySem.W.Frag} {mg : Str → Option Value} {base : Heap} {f : Addr} {fd : FuncData}
structure Frg (mg : Str → Option Value) : Prop where
  range : mg "range" = none
theorem scChain : FnScope ["deep", "last", "thing", "turn"] ["deep", "last"] (defScope (top 35)) := ⟨rfl, rfl, rfl, by decide +kernel, rfl, by decide +kernel, by decide +kernel⟩
theorem ok_chain (F : FnT K "_law_chain" (top 35) f fd) (T : Frg mg) : FnOk P w K mg base CX0 1 f fd ["deep", "last"] spChain := by
  have sc := scChain
  refine F.ok scChain (fun vs H Q E h => ?_) (fun cdv A outer s H vs Q E hr h => ?_)
  · obtain ⟨_, _, _, rfl, _⟩ := h
    rfl
  refine ⟨_, PSs.nox (pss_cons (ps_set (i := 2) sc.nd rfl (Or.inl rfl) (pv 1))
      (pss_cons (ps_for PassesOwn.never rfl (pi_range1 (by rfl) T.range (pa_cons (pe_op op_sub (pv 0) pe_int) pa_nil)) (pg_name (i := 3) sc.nd rfl (Or.inl rfl)) (pss_one (ps_set (i := 2) sc.nd rfl (Or.inl rfl) (pe_tup (pa_cons pe_str (pa_cons (pv 2) pa_nil))))))
      (pss_one (ps_ret (pv 2))))), ?_⟩
  obtain ⟨n, v, t, rfl, hn, tv, k⟩ := h
  refine q_asg (ev_var rfl) fun H1 e1 => ?_
  refine q_forR1 (n := n) (ea_cons (ev_is (ev_op (ev_var rfl) ev_c rv_I0) (by show V.int (((n + 1 : Nat) : Int) - 1) = V.int (n : Nat); congr 1; omega)) ea_nil) ⟨by omega, by omega⟩ (fun i σ' H' => ∃ x r, σ' = [some (.int (n + 1 : Nat)), some v, some r, x] ∧ Ex H H' ∧ Tv H' r (chainT i t)) ?_ ?_ ?_
  · exact fun H2 e2 => ⟨_, _, rfl, e1.trans e2, tv.mono (TupEx.of (e1.trans e2))⟩
  · rintro i σ' H' hi ⟨x, r, rfl, ex, tr⟩
    refine ⟨_, rfl, by show 2 ≤ sizeLine; decide, fun p hp => ⟨_, _, rfl, ex.trans (Ex.new hp), ?_⟩⟩
    exact .node upd_same (.cons (tr.mono (TupEx.of (Ex.new hp))) .nil)
  · rintro σ' H' ⟨x, r, rfl, ex, tr⟩
    exact s_ret (ev_var rfl) fun H2 e2 => k r H2 (ex.trans e2) (by
      rw [Int.toNat_natCast] at tr
      exact tr.mono (TupEx.of e2))
theorem scComb : FnScope ["levels", "leaf", "last", "thing", "turn"] ["levels", "leaf", "last"] (defScope (top 36)) := ⟨rfl, rfl, rfl, by decide +kernel, rfl, by decide +kernel, by decide +kernel⟩
theorem ok_comb (F : FnT K "_law_comb" (top 36) f fd) (T : Frg mg) : FnOk P w K mg base CX0 1 f fd ["levels", "leaf", "last"] spComb := by
  have sc := scComb
  refine F.ok scComb (fun vs H Q E h => ?_) (fun cdv A outer s H vs Q E hr h => ?_)
  · obtain ⟨_, _, _, _, _, rfl, _⟩ := h
    rfl
  refine ⟨_, PSs.nox (pss_cons (ps_set (i := 3) sc.nd rfl (Or.inl rfl) (pv 2))
      (pss_cons (ps_for PassesOwn.never rfl (pi_range1 (by rfl) T.range (pa_cons (pv 0) pa_nil)) (pg_name (i := 4) sc.nd rfl (Or.inl rfl)) (pss_one (ps_set (i := 3) sc.nd rfl (Or.inl rfl) (pe_tup (pa_cons pe_str (pa_cons (pe_tup (pa_cons pe_str (pa_cons (pv 1) (pa_cons (pv 1) pa_nil)))) (pa_cons (pv 3) pa_nil)))))))
      (pss_one (ps_ret (pv 3))))), ?_⟩
  obtain ⟨n, u, v, l, t, rfl, hn, tu, tv, k⟩ := h
  refine q_asg (ev_var rfl) fun H1 e1 => ?_
  refine q_forR1 (n := n) (ea_cons (ev_var rfl) ea_nil) ⟨by omega, by omega⟩ (fun i σ' H' => ∃ x r, σ' = [some (.int (n : Nat)), some u, some v, some r, x] ∧ Ex H H' ∧ Tv H' r (combT l i t)) ?_ ?_ ?_
  · exact fun H2 e2 => ⟨_, _, rfl, e1.trans e2, tv.mono (TupEx.of (e1.trans e2))⟩
  · rintro i σ' H' hi ⟨x, r, rfl, ex, tr⟩
    refine ⟨_, rfl, _, rfl, by show 3 ≤ sizeLine; decide, fun p hp => ⟨_, rfl, by show 3 ≤ sizeLine; decide, fun q hq => ⟨_, _, rfl, (ex.trans (Ex.new hp)).trans (Ex.new hq), ?_⟩⟩⟩
    have x1 := Ex.new (o := .tup [.str "pair", u, u]) hp
    have x2 := Ex.new (o := .tup [.str "pair", .ref p, r]) hq
    have tl := tu.mono (TupEx.of ((ex.trans x1).trans x2))
    exact .node upd_same (.cons (.node (x2 _ _ upd_same) (.cons tl (.cons tl .nil))) (.cons (tr.mono (TupEx.of (x1.trans x2))) .nil))
  · rintro σ' H' ⟨x, r, rfl, ex, tr⟩
    exact s_ret (ev_var rfl) fun H2 e2 => k r H2 (ex.trans e2) (by
      rw [Int.toNat_natCast] at tr
      exact tr.mono (TupEx.of e2))
end
end K03
set_option maxHeartbeats 2000000
/-! Things, bundles, fillings that are written out. -/
namespace K03
open PySem PySem.Spec PyProof.Rows L2 Evl LL
theorem monOfT {R : VP} (m : MonT R) : Mon R := fun v H H' e h => m v H H' (TupEx.of e) h
theorem IsBun.monT {ts : List Thg} : MonT (IsBun ts) := fun v H H' e h => h.mono e
/-- a dict that keeps f -/
def IsKp (f : Int → Option Thg) : VP := fun v H => ∃ g kvs, v = .ref g ∧ Keeps H g kvs f
theorem IsKp.mon {f : Int → Option Thg} : Mon (IsKp f) := fun v H H' e ⟨g, kvs, h1, h2⟩ => ⟨g, kvs, h1, h2.mono e⟩
/-- two bundles as data -/
structure MatD (ts os : List Thg) (W : Str → Prop) (N Z : Nat) : Prop where
  nt : Thg.NcL W ts
  no : Thg.NcL W os
  len : ts.length = os.length
  ot : ∀ t ∈ ts, t.dp ≤ 219 ∧ t.sz ≤ 2400
  oo : ∀ t ∈ os, t.dp ≤ 219 ∧ t.sz ≤ 2400
  st : Thg.szL ts ≤ 10000
  so : Thg.szL os ≤ 10000
  few : Few ts N
  n1 : N ≤ 1000
  nz : N * (40 * Z + 80) ≤ 16000000
  z : ∀ t ∈ os, t.sz ≤ Z
def pairF (n : Int) (t : Thg) : Int → Option Thg := fun m => if m = n then some t else none
def twoF (n : Int) (t : Thg) (m : Int) (u : Thg) : Int → Option Thg := fun k => if k = n then some t else if k = m then some u else none
section
variable {σ : L2.St} {H : Hp} {te ta tb tk tv tk2 tv2 : TE} {tr : TA} {v : V} {t u : Thg} {ts os : List Thg} {h : Str} {W : Str → Prop} {N Z i j : Nat} {f : Int → Option Thg} {E : XK} {ns : List Int} {n m : Int} {l : Addr}
theorem x_num : EvX (tC (.int n)) σ H (IsT (.num n)) := x_imp (x_of ev_c) fun v H' _ e => by
  rw [e]
  exact .num n
theorem xt_nil : EvXA tNil σ H (([] : List Thg).map IsT) := xa_nil
theorem xt_cons (a : EvX te σ H (IsT t)) (b : EvXA tr σ H (ts.map IsT)) : EvXA (tCons te tr) σ H ((t :: ts).map IsT) := xa_cons (monOfT monT_tv) a b
theorem x_node (k : EvXA tr σ H (ts.map IsT)) (hl : ts.length ≤ 1000 := by decide) (nb : h ≠ "!" := by decide) : EvX (tTup (tCons (tC (.str h)) tr)) σ H (IsT (.node h ts)) := fun H1 e Q q => k H1 e _ fun vs H2 e2 rs => by
  have tv := tvs_all rs
  have ln := rs.len
  rw [List.length_map] at ln
  refine ⟨sz_of (by rw [List.length_cons]; omega), fun p hp => q _ _ (e2.trans (Ex.new hp)) (.node upd_same (tv.mono (TupEx.of (Ex.new hp))) nb)⟩
theorem x_bun (k : EvXA tr σ H (ts.map IsT)) (hl : ts.length ≤ 1000 := by decide) : EvX (tTup tr) σ H (IsBun ts) := fun H1 e Q q => k H1 e _ fun vs H2 e2 rs => by
  have tv := tvs_all rs
  have ln := rs.len
  rw [List.length_map] at ln
  refine ⟨sz_of (by omega), fun p hp => q _ _ (e2.trans (Ex.new hp)) ⟨p, vs, rfl, upd_same, tv.mono (TupEx.of (Ex.new hp))⟩⟩
theorem x_vT {R : VP} (hm : Mon R) (hi : σ[i]? = some (some v)) (r : R v H) : EvX (tVar i) σ H R := x_var hm hi r
theorem x_chain (hi : σ[i]? = some (some (.int (j + 1 : Nat)))) (hb : EvX tb σ H (IsT t)) (hj : j ≤ 1000) : EvX (tCall spChain [] E (tCons (tVar i) (tCons tb tNil))) σ H (IsT (chainT j t)) := fun H1 e Q q =>
  ⟨_, hi, hb H1 e _ fun v H2 e2 r => ⟨j, v, t, rfl, hj, r, fun r2 H3 e3 tv => q r2 H3 (e2.trans e3) tv⟩⟩
theorem x_comb {a b : Thg} (hi : σ[i]? = some (some (.int (j : Nat)))) (ha : EvX ta σ H (IsT a)) (hb : EvX tb σ H (IsT b)) (hj : j ≤ 1000) : EvX (tCall spComb [] E (tCons (tVar i) (tCons ta (tCons tb tNil)))) σ H (IsT (combT a j b)) := fun H1 e Q q =>
  ⟨_, hi, ha H1 e _ fun v H2 e2 r => hb H2 (e.trans e2) _ fun u H3 e3 r3 => ⟨j, v, u, a, b, rfl, hj, r.mono (TupEx.of e3), r3, fun r2 H4 e4 tv => q r2 H4 ((e2.trans e3).trans e4) tv⟩⟩
theorem MatD.to {b o : Addr} {us zs : List V} (d : MatD ts os W N Z) (hb : H b = some (.tup us)) (ho : H o = some (.tup zs)) (tv : Tvs H us ts) (tz : Tvs H zs os) : MatR H b o us zs ts os W N Z :=
  ⟨hb, ho, tv, tz, d.nt, d.no, d.len, d.ot, d.oo, d.st, d.so, d.few, d.n1, d.nz, d.z⟩
theorem x_mat (ha : EvX ta σ H (IsBun ts)) (hb : EvX tb σ H (IsBun os)) (d : MatD ts os W N Z) (ld : Leads ts os f) : EvX (tCall spMatched [] E (tCons ta (tCons tb tNil))) σ H (IsKp f) := fun H1 e Q q =>
  ha H1 e _ fun v H2 e2 r => hb H2 (e.trans e2) _ fun u H3 e3 r3 => by
    obtain ⟨b, us, rfl, h1, h2⟩ := r.mono (TupEx.of e3)
    obtain ⟨o, zs, rfl, h3, h4⟩ := r3
    have m1 := d.to h1 h3 h2 h4
    refine ⟨b, o, us, zs, ts, os, rfl, m1.hb, m1.ho, m1.tv, m1.tz, m1.nt.wf, m1.no.wf, m1.len, ?_, ?_, fun H2 e2 hn => (NoLead.not hn ld).elim, fun g kvs f2 H4 hg0 e4 hg fv key ld2 dm _ => ?_⟩
    · exact Nat.le_trans (Thg.preL_sz ts) (Nat.le_trans m1.st (by decide))
    · exact Nat.le_trans (Thg.preL_sz os) (Nat.le_trans m1.so (by decide))
    · have e1 := Leads.one (f := f) (g := f2) ld ⟨ld2, dm⟩
      subst e1
      exact q _ H4 ((e2.trans e3).trans e4) ⟨g, kvs, rfl, keeps_of m1.nt m1.no m1.few m1.n1 m1.nz m1.z (fun t ht => Nat.le_trans (m1.oo t ht).1 (by decide)) (fun t ht => (m1.oo t ht).2) hg fv key ld2 dm⟩
theorem ev_matN (ha : EvX ta σ H (IsBun ts)) (hb : EvX tb σ H (IsBun os)) (d : MatD ts os W N Z) (hn : NoLead ts os) : Ev (tCall spMatched [] E (tCons ta (tCons tb tNil))) σ H .non := fun H1 e Q q =>
  ha H1 e _ fun v H2 e2 r => hb H2 (e.trans e2) _ fun u H3 e3 r3 => by
    obtain ⟨b, us, rfl, h1, h2⟩ := r.mono (TupEx.of e3)
    obtain ⟨o, zs, rfl, h3, h4⟩ := r3
    have m1 := d.to h1 h3 h2 h4
    refine ⟨b, o, us, zs, ts, os, rfl, m1.hb, m1.ho, m1.tv, m1.tz, m1.nt.wf, m1.no.wf, m1.len, ?_, ?_, fun H4 e4 _ => q H4 ((e2.trans e3).trans e4), fun g kvs f2 H2 hg0 e2 hg fv key ld2 dm _ => (NoLead.not hn ⟨ld2, dm⟩).elim⟩
    · exact Nat.le_trans (Thg.preL_sz ts) (Nat.le_trans m1.st (by decide))
    · exact Nat.le_trans (Thg.preL_sz os) (Nat.le_trans m1.so (by decide))
theorem x_fil (ha : EvX ta σ H (IsBun ts)) (hb : EvX tb σ H (IsKp f)) (wf : Thg.WfL ts) (hz : Thg.szL ts ≤ 50000) : EvX (tCall spFilled [] E (tCons ta (tCons tb tNil))) σ H (IsBun (Thg.subL f ts)) := fun H1 e Q q =>
  ha H1 e _ fun v H2 e2 r => hb H2 (e.trans e2) _ fun u H3 e3 r3 => by
    obtain ⟨b, us, rfl, h1, h2⟩ := r.mono (TupEx.of e3)
    obtain ⟨g, kvs, rfl, kp⟩ := r3
    exact ⟨b, g, us, ts, kvs, f, rfl, h1, h2, wf, Nat.le_trans (Thg.preL_sz ts) hz, kp.at_, kp.fv, fun p us' H4 e4 h4 t4 => q _ H4 ((e2.trans e3).trans e4) ⟨p, us', rfl, h4, t4⟩⟩
theorem ev_shF (nb : Numbers f ns) (h : EvX te σ H (IsKp f)) : Ev (tCall spShown [] E (tCons te tNil)) σ H (.str (shF f ns)) := ev_shown nb h fun v H' _ r => r
theorem numsP : Numbers (pairF n t) [n] := ⟨(by simp), List.pairwise_singleton _ _, fun k => by
  unfold pairF
  by_cases q : k = n
  · simp [q]
  · simp [q]⟩
/-- {n: t} -/
theorem x_disp (hk : Ev tk σ H (.int n)) (hv : EvX tv σ H (IsT t)) (hn : n.natAbs < 10 ^ 30) (gd : Gd t) : EvX (tDisp [(tk, tv)]) σ H (IsKp (pairF n t)) := fun H1 e Q q => fun p hp =>
  hk _ (e.trans (Ex.new hp)) _ fun H2 e2 => hv H2 ((e.trans (Ex.new hp)).trans e2) _ fun v H3 e3 r => by
    have h3 : H3 p = some (.dK []) := (e2.trans e3) _ _ upd_same
    refine ⟨h3, [(.inl n, v)], rfl, (by show 1 ≤ 15; decide), q _ _ (Ex.mut (((Ex.new hp).trans e2).trans e3) hp) ⟨p, [(.inl n, v)], rfl, ?_⟩⟩
    have st := Stay.dic (x := .dK [(.inl n, v)]) h3
    refine ⟨upd_same, fun k => ?_, ⟨(by simp), fun p hp => ⟨n, by rw [List.mem_singleton.mp hp]⟩⟩, ⟨1, 2400, Nat.le_refl _, by decide, by decide, fun k u hu => ?_⟩, fun p hp k ek => ?_, fun k u hu => ?_⟩
    · have e : valV [((Sum.inl n : Key), v)] (.inl k) = if k = n then some v else none := by
        unfold valV
        by_cases q : k = n
        · simp [q]
        · have : ¬ n = k := fun z => q z.symm
          simp [q, this]
      rw [e]
      unfold pairF
      by_cases q : k = n
      · rw [if_pos q, if_pos q]
        exact ⟨fun u z => by cases z; exact ⟨t, rfl, Tv.mono st.tup r⟩, fun z => nomatch z⟩
      · rw [if_neg q, if_neg q]
        exact ⟨fun u z => (by cases z), fun _ => rfl⟩
    · unfold pairF at hu
      split at hu
      · cases hu; exact gd.2.2.2
      · cases hu
    · rw [List.mem_singleton.mp hp] at ek
      cases ek
      exact hn
    · unfold pairF at hu
      split at hu
      · cases hu; exact gd
      · cases hu
/-- {n: t, m: u} -/
theorem x_disp2 (hk : ∀ H, Ev tk σ H (.int n)) (hv : ∀ H, EvX tv σ H (IsT t)) (hk2 : ∀ H, Ev tk2 σ H (.int m)) (hv2 : ∀ H, EvX tv2 σ H (IsT u)) (hnm : n ≠ m) (hn : n.natAbs < 10 ^ 30) (hm : m.natAbs < 10 ^ 30) (gd : Gd t) (gd2 : Gd u) : EvX (tDisp [(tk, tv), (tk2, tv2)]) σ H (IsKp (twoF n t m u)) := fun H1 e Q q => fun p hp =>
  hk _ _ (Ex.refl _) _ fun H2 e2 => hv _ _ (Ex.refl _) _ fun v H3 e3 r => hk2 _ _ (Ex.refl _) _ fun H4 e4 => hv2 _ _ (Ex.refl _) _ fun v2 H5 e5 r2 => by
    have h3 : H5 p = some (.dK []) := ((e2.trans e3).trans (e4.trans e5)) _ _ upd_same
    have nm : ¬ (n = m) := hnm
    have em : mergeK [] [((Sum.inl n : Key), v), (.inl m, v2)] = [(.inl n, v), (.inl m, v2)] := mergeK_new _ [] (by simp [nm])
    refine ⟨h3, [(.inl n, v), (.inl m, v2)], rfl, (by show 2 ≤ 15; decide), ?_⟩
    rw [em]
    refine q _ _ (Ex.mut (((Ex.new hp).trans (e2.trans e3)).trans (e4.trans e5)) hp) ⟨p, [(.inl n, v), (.inl m, v2)], rfl, ?_⟩
    have st := Stay.dic (x := .dK [((Sum.inl n : Key), v), (.inl m, v2)]) h3
    have r1 : Tv _ v t := Tv.mono ((TupEx.of (e4.trans e5)).trans st.tup) r
    have r3 : Tv _ v2 u := Tv.mono st.tup r2
    have cases2 : ∀ k w, twoF n t m u k = some w → w = t ∨ w = u := fun k w hw => by
      unfold twoF at hw
      split at hw
      · cases hw; exact .inl rfl
      · split at hw
        · cases hw; exact .inr rfl
        · cases hw
    refine ⟨upd_same, fun k => ?_, ⟨by simp [nm], fun p hp => ?_⟩, ⟨2, 2400, Nat.le_refl _, by decide, by decide, fun k w hw => ?_⟩, fun p hp k ek => ?_, fun k w hw => ?_⟩
    · have e : valV [((Sum.inl n : Key), v), (.inl m, v2)] (.inl k) = if k = n then some v else if k = m then some v2 else none := by
        unfold valV
        by_cases q : k = n
        · simp [q]
        · have q' : ¬ n = k := fun z => q z.symm
          by_cases q2 : k = m
          · have mn : ¬ m = n := fun z => nm z.symm
            simp [q, q', q2, nm, mn]
          · have q2' : ¬ m = k := fun z => q2 z.symm
            simp [q, q', q2, q2']
      rw [e]
      unfold twoF
      by_cases q : k = n
      · rw [if_pos q, if_pos q]
        exact ⟨fun w z => by cases z; exact ⟨t, rfl, r1⟩, fun z => nomatch z⟩
      · rw [if_neg q, if_neg q]
        by_cases q2 : k = m
        · rw [if_pos q2, if_pos q2]
          exact ⟨fun w z => by cases z; exact ⟨u, rfl, r3⟩, fun z => nomatch z⟩
        · rw [if_neg q2, if_neg q2]
          exact ⟨fun w z => (by cases z), fun _ => rfl⟩
    · simp only [List.mem_cons, List.not_mem_nil, or_false] at hp
      rcases hp with rfl | rfl
      · exact ⟨_, rfl⟩
      · exact ⟨_, rfl⟩
    · rcases cases2 k w hw with rfl | rfl
      · exact gd.2.2.2
      · exact gd2.2.2.2
    · simp only [List.mem_cons, List.not_mem_nil, or_false] at hp
      rcases hp with rfl | rfl
      · cases ek; exact hn
      · cases ek; exact hm
    · rcases cases2 k w hw with rfl | rfl
      · exact gd
      · exact gd2
/-- {} -/
theorem x_disp0 : EvX tDNewK σ H (IsKp fun _ => none) := fun H1 e Q q => fun p hp =>
  q _ _ (Ex.new hp) ⟨p, [], rfl, upd_same, fun k => ⟨fun u z => (by cases z), fun _ => rfl⟩, ⟨.nil, nofun⟩, ⟨0, 0, Nat.le_refl _, by decide, by decide, nofun⟩, nofun, nofun⟩
/-- two texts of bundles that are alike -/
theorem et_rep (hl : ∃ o, H l = some o ∧ ∀ xs, o ≠ .tup xs) (ha : EvX ta σ H (IsBun ts)) (hb : EvX tb σ H (IsBun ts)) (nc : Thg.NcL W ts) (dp : ∀ t ∈ ts, t.dp ≤ 219) (sz : Thg.szL ts ≤ 10000) : EvT (tTest (tOp rNe (tCB rReprD (tCons ta tNil)) (tCB rReprD (tCons tb tNil)))) σ H false := by
  have L := bun_lim (n := 219) (M := 10000) nc.sm dp sz
  exact et_is (et_test (ev_op (ev_repD (R := IsBun ts) hl ha (fun v H' _ hl r => r.dz hl) rfl L (by decide) (by decide)) (ev_repD (R := IsBun ts) hl hb (fun v H' _ hl r => r.dz hl) rfl L (by decide) (by decide)) (rv_ne rfl))) (by simp)
end
end K03
set_option maxHeartbeats 2000000
/-! Great bundles: deep ones, long ones. -/
namespace K03
open PySem PySem.Spec PyProof.Rows L2 Evl LL
abbrev W0 : Str → Prop := fun _ => False
theorem wok_ptr : WordOk "ptr" := ⟨by decide +kernel, by decide +kernel, by decide +kernel⟩
theorem wok_pair : WordOk "pair" := ⟨by decide +kernel, by decide +kernel, by decide +kernel⟩
theorem wok_int : WordOk "int" := ⟨by decide +kernel, by decide +kernel, by decide +kernel⟩
theorem wok_bit : WordOk "bit" := ⟨by decide +kernel, by decide +kernel, by decide +kernel⟩
theorem lf_ptr : Thg.leafy "ptr" = false := by decide +kernel
theorem lf_pair : Thg.leafy "pair" = false := by decide +kernel
theorem ptr_q : ¬ (("ptr" : Str) = "?") := by decide
theorem ptr_t : ¬ (("ptr" : Str) = "~") := by decide
theorem pair_q : ¬ (("pair" : Str) = "?") := by decide
theorem pair_t : ¬ (("pair" : Str) = "~") := by decide
theorem nc_chain {W : Str → Prop} {t : Thg} (h : t.Nc W) : ∀ n, (chainT n t).Nc W
  | 0 => h
  | n + 1 => ⟨wok_ptr, (fun z => by rw [lf_ptr] at z; cases z), nc_chain h n, trivial⟩
theorem nc_comb {W : Str → Prop} {l t : Thg} (hl : l.Nc W) (h : t.Nc W) : ∀ n, (combT l n t).Nc W
  | 0 => h
  | n + 1 => ⟨wok_pair, (fun z => by rw [lf_pair] at z; cases z), ⟨wok_pair, (fun z => by rw [lf_pair] at z; cases z), hl, hl, trivial⟩, nc_comb hl h n, trivial⟩
theorem sz_chain {t : Thg} : ∀ n, (chainT n t).sz = n + t.sz
  | 0 => by simp [chainT]
  | n + 1 => by simp only [chainT, Thg.sz, Thg.szL, sz_chain n]; omega
theorem dp_chain {t : Thg} : ∀ n, (chainT n t).dp = n + t.dp
  | 0 => by simp [chainT]
  | n + 1 => by simp only [chainT, Thg.dp, Thg.dpL, dp_chain n]; omega
theorem sz_comb {l t : Thg} : ∀ n, (combT l n t).sz = n * (2 * l.sz + 2) + t.sz
  | 0 => by simp [combT]
  | n + 1 => by
    simp only [combT, Thg.sz, Thg.szL, sz_comb n, Nat.add_mul]
    omega
theorem dp_comb {l t : Thg} : ∀ n, (combT l n t).dp ≤ n + l.dp + t.dp + 1
  | 0 => by simp only [combT]; omega
  | n + 1 => by
    have := dp_comb (l := l) (t := t) n
    simp only [combT, Thg.dp, Thg.dpL]
    omega
theorem sub_chain {f : Int → Option Thg} {t : Thg} : ∀ n, Thg.sub f (chainT n t) = chainT n (Thg.sub f t)
  | 0 => rfl
  | n + 1 => by simp only [chainT, Thg.sub, Thg.subL, ptr_q, ptr_t, if_false, sub_chain n]
theorem sub_comb {f : Int → Option Thg} {l t : Thg} : ∀ n, Thg.sub f (combT l n t) = combT (Thg.sub f l) n (Thg.sub f t)
  | 0 => rfl
  | n + 1 => by simp only [combT, Thg.sub, Thg.subL, pair_q, pair_t, if_false, sub_comb n]
theorem unk_chain {t : Thg} : ∀ n, Thg.unkL [chainT n t] = Thg.unkL [t]
  | 0 => rfl
  | n + 1 => by
    show Thg.unkL [.node "ptr" [chainT n t]] = _
    rw [Thg.unk_node, Thg.unk_closed (by simp [Thg.isO, ptr_q])]
    simp only [Thg.kids, lf_ptr, List.nil_append]
    exact unk_chain n
theorem unk_comb {l t : Thg} : ∀ n x, x ∈ Thg.unkL [combT l n t] → x ∈ Thg.unkL [l] ∨ x ∈ Thg.unkL [t]
  | 0, _, h => .inr h
  | n + 1, x, h => by
    have e : ∀ us : List Thg, Thg.unkL [.node "pair" us] = Thg.unkL us := fun us => by
      rw [Thg.unk_node, Thg.unk_closed (by simp [Thg.isO, pair_q])]
      simp [Thg.kids, lf_pair]
    have h1 : x ∈ Thg.unkL [.node "pair" [.node "pair" [l, l], combT l n t]] := h
    rw [e, Thg.unkL_cons, e, Thg.unkL_cons] at h1
    rcases List.mem_append.mp h1 with q | q
    · rcases List.mem_append.mp q with q | q
      · exact .inl q
      · exact .inl q
    · exact unk_comb n x q
theorem comb_inj {l m t u : Thg} : ∀ {n}, combT l n t = combT m n u → t = u
  | 0, h => h
  | n + 1, h => by
    simp only [combT, Thg.node.injEq, List.cons.injEq, and_true, true_and] at h
    exact comb_inj h.2
/-- the bundles -/
def gE (d k : Nat) (t u : Thg) : List Thg := [chainT d t, combT t k u, t]
/-- what is put for the leaf -/
structure Put1 (t : Thg) : Prop where
  nc : t.Nc W0
  sz : t.sz ≤ 3
  dp : t.dp ≤ 2
  nb : t ≠ .node "bit" []
theorem gE_sub {d k : Nat} {a : Int} {f : Int → Option Thg} {t : Thg} (h : f a = some t) : Thg.subL f (gE d k (unkT a) (unkT a)) = gE d k t t := by
  have e : Thg.sub f (unkT a) = t := by
    show (f a).getD _ = t
    rw [h]
    rfl
  simp only [gE, Thg.subL, sub_chain, sub_comb, e]
theorem gE_unk {d k : Nat} {a x : Int} (h : x ∈ Thg.unkL (gE d k (unkT a) (unkT a))) : x = a := by
  unfold gE at h
  rw [Thg.unkL_cons, unk_chain, Thg.unkL_cons, unkT_unk] at h
  rcases List.mem_append.mp h with q | q
  · exact List.mem_singleton.mp q
  · rw [Thg.unkL_cons, unkT_unk] at q
    rcases List.mem_append.mp q with q | q
    · rcases unk_comb _ _ q with z | z
      · rw [unkT_unk] at z; exact List.mem_singleton.mp z
      · rw [unkT_unk] at z; exact List.mem_singleton.mp z
    · exact List.mem_singleton.mp q
theorem gE_unk2 {d k : Nat} {a : Int} : a ∈ Thg.unkL (gE d k (unkT a) (unkT a)) := by
  unfold gE
  rw [Thg.unkL_cons, unk_chain, unkT_unk]
  exact List.mem_append_left _ (List.mem_singleton.mpr rfl)
theorem gE_leads {d k : Nat} {a : Int} {t : Thg} : Leads (gE d k (unkT a) (unkT a)) (gE d k t t) (pairF a t) := by
  have h := leads_fill (ts := gE d k (unkT a) (unkT a)) (f := pairF a t) fun n => ⟨fun h => by rw [gE_unk h]; unfold pairF; simp, fun h => by
    unfold pairF at h
    by_cases q : n = a
    · rw [q]; exact gE_unk2
    · simp [q] at h⟩
  rw [gE_sub (t := t) (by unfold pairF; simp)] at h
  exact h
theorem gE_none {d k : Nat} {a : Int} {t : Thg} (h : t ≠ .node "bit" []) : NoLead (gE d k (unkT a) (unkT a)) (gE d k t (.node "bit" [])) := fun G e => by
  have e1 := gE_sub (d := d) (k := k) (a := a) (f := all_ G) (t := G a) rfl
  rw [e1] at e
  unfold gE at e
  simp only [List.cons.injEq, and_true] at e
  obtain ⟨_, h1, h2⟩ := e
  exact h (h2.symm.trans (comb_inj h1))
theorem gE_nc {d k : Nat} {t u : Thg} (h : t.Nc W0) (hu : u.Nc W0) : Thg.NcL W0 (gE d k t u) := ⟨nc_chain h d, nc_comb h hu k, h, trivial⟩
theorem gE_all {d k : Nat} {t u : Thg} (hd : d ≤ 198) (hk : k ≤ 90) (h1 : t.sz ≤ 3) (h2 : t.dp ≤ 2) (h3 : u.sz ≤ 3) (h4 : u.dp ≤ 2) : (∀ x ∈ gE d k t u, x.dp ≤ 219 ∧ x.sz ≤ 800) ∧ Thg.szL (gE d k t u) ≤ 10000 := by
  have a1 := sz_chain (t := t) d
  have a2 := dp_chain (t := t) d
  have a3 := sz_comb (l := t) (t := u) k
  have a4 := dp_comb (l := t) (t := u) k
  have a5 : k * (2 * t.sz + 2) ≤ 90 * 8 := Nat.mul_le_mul hk (by omega)
  refine ⟨fun x hx => ?_, ?_⟩
  · unfold gE at hx
    simp only [List.mem_cons, List.not_mem_nil, or_false] at hx
    rcases hx with rfl | rfl | rfl
    · exact ⟨by omega, by omega⟩
    · exact ⟨by omega, by omega⟩
    · exact ⟨by omega, by omega⟩
  · simp only [gE, Thg.szL]
    omega
theorem unkT_nc {a : Int} (h0 : 0 ≤ a) (h1 : a < 1000) : (unkT a).Nc W0 := nc_unk h0 h1
theorem unkT_sz {a : Int} : (unkT a).sz ≤ 3 := by simp [unkT, Thg.sz, Thg.szL]
theorem unkT_dp {a : Int} : (unkT a).dp ≤ 2 := by simp [unkT, Thg.dp, Thg.dpL]
theorem gE_mat {d k : Nat} {a : Int} {t u : Thg} (hd : d ≤ 198) (hk : k ≤ 90) (h0 : 0 ≤ a) (h1 : a < 1000) (ht : t.Nc W0) (ts : t.sz ≤ 3) (td : t.dp ≤ 2) (hu : u.Nc W0) (us : u.sz ≤ 3) (ud : u.dp ≤ 2) : MatD (gE d k (unkT a) (unkT a)) (gE d k t u) W0 1 800 := by
  obtain ⟨a1, a2⟩ := gE_all (t := unkT a) (u := unkT a) hd hk unkT_sz unkT_dp unkT_sz unkT_dp
  obtain ⟨b1, b2⟩ := gE_all (t := t) (u := u) hd hk ts td us ud
  exact ⟨gE_nc (unkT_nc h0 h1) (unkT_nc h0 h1), gE_nc ht hu, rfl, fun x hx => ⟨(a1 x hx).1, Nat.le_trans (a1 x hx).2 (by decide)⟩, fun x hx => ⟨(b1 x hx).1, Nat.le_trans (b1 x hx).2 (by decide)⟩, a2, b2,
    fun l nd hl => nodup_le l [a] nd fun n hn => List.mem_singleton.mpr (gE_unk (hl n hn)), by decide, by decide, fun x hx => (b1 x hx).2⟩
def IsTh : VP := fun v H => ∃ t, Tv H v t ∧ Put1 t
theorem IsTh.monT : MonT IsTh := fun v H H' e ⟨t, h1, h2⟩ => ⟨t, h1.mono e, h2⟩
def IsDL : VP := fun v H => ∃ (p : Addr) (d k : Nat), v = .ref p ∧ H p = some (.tup [.int (d + 1 : Nat), .int (k : Nat)]) ∧ d ≤ 198 ∧ k ≤ 90
theorem IsDL.monT : MonT IsDL := fun v H H' e ⟨p, d, k, h1, h2, h3⟩ => ⟨p, d, k, h1, e _ _ h2, h3⟩
theorem s_forI {wi : TI} {g : TG} {tb : TS} {D : Ends} {σ : L2.St} {H : Hp} (h : wi σ H (fun J H1 => ∃ W : Nat → Nat → L2.St → Hp → Prop, (∃ m, W 0 m σ H1) ∧ ∀ i m σ H, W i m σ H → (J.stop i H ∧ D.nx σ H) ∨ (J.go i H ∧ ∃ N : L2.St → Hp → Prop, (∀ σ' H', N σ' H' → ∃ m', m' < m ∧ W (i + 1) m' σ' H') ∧ ∀ x H', J.yld i H x H' → g x σ H' fun σ2 H2 => tb { nx := N, rt := D.rt, bk := D.nx, ct := N } σ2 H2))) : tFor wi g tb D σ H := h
theorem q_forI {wi : TI} {g : TG} {tb tz : TS} {D : Ends} {σ : L2.St} {H : Hp} (h : tFor wi g tb { D with nx := tz D } σ H) : tSeq (tFor wi g tb) tz D σ H := h
theorem iTup_of {K : PySem.W.Frag} {σ : L2.St} {H : Hp} {tl : TE} {Rs : List VP} {R : It → Hp → Prop} (h : EvX tl σ H (TupOf Rs)) (k : ∀ p vs H1, Ex H H1 → H1 p = some (.tup vs) → All2 Rs vs H1 → R (Itt K p) H1) : iTup K tl σ H R :=
  h H (Ex.refl H) _ fun v H1 e ⟨p, vs, ev, hp, rs⟩ => ⟨p, ev, ⟨vs, st_of hp⟩, k p vs H1 e hp rs⟩
theorem x_dl {σ : L2.St} {H : Hp} {x y : Int} (d k : Nat) (hx : x = ((d + 1 : Nat) : Int)) (hy : y = ((k : Nat) : Int)) (hd : d ≤ 198) (hk : k ≤ 90) : EvX (tTup (tCons (tC (.int x)) (tCons (tC (.int y)) tNil))) σ H IsDL := fun H1 e Q q =>
  ⟨by show 2 ≤ sizeLine; decide, fun p hp => q _ _ (Ex.new hp) ⟨p, d, k, rfl, by rw [hx, hy]; exact upd_same, hd, hk⟩⟩
theorem put_new {b : Int} (h0 : 0 ≤ b) (h1 : b < 9) : Put1 (.node "ptr" [.node "~" [.num b]]) :=
  ⟨⟨wok_ptr, (fun z => by rw [lf_ptr] at z; cases z), ⟨wordOk_t, (fun _ => ⟨b, rfl, fun z => absurd z (by decide)⟩), (show b.natAbs < 10 ^ 30 from Nat.lt_of_lt_of_le (show b.natAbs < 1000 by omega) (by decide)), trivial⟩, trivial⟩, by simp [Thg.sz, Thg.szL], by simp [Thg.dp, Thg.dpL], by simp⟩
theorem lf_int : Thg.leafy "int" = false := by decide +kernel
theorem lf_bit : Thg.leafy "bit" = false := by decide +kernel
theorem int_bit : ¬ (("int" : Str) = "bit") := by decide
theorem put_int : Put1 (.node "int" []) := ⟨⟨wok_int, (fun z => by rw [lf_int] at z; cases z), trivial⟩, by simp [Thg.sz, Thg.szL], by simp [Thg.dp, Thg.dpL], fun z => int_bit (Thg.node.inj z).1⟩
theorem nc_bit : (Thg.node "bit" []).Nc W0 := ⟨wok_bit, (fun z => by rw [lf_bit] at z; cases z), trivial⟩
theorem put_unk {a : Int} (h0 : 0 ≤ a) (h1 : a < 1000) : Put1 (unkT a) := ⟨unkT_nc h0 h1, unkT_sz, unkT_dp, by simp [unkT]⟩
def spGreat : Sp := fun vs H Q _ => ∃ (l c : Addr), vs = [.ref l] ∧ HandC H l c ∧ ∀ H', Exl l H H' → HandC H' l c → Q (.bl true) H'
structure Fgr (P : Program) (w : World) (K : PySem.W.Frag) (mg : Str → Option Value) (base : Heap) : Prop where
  repr : mg "repr" = none
  sys : Sys K
  h_law_draw : Has P w K mg base CX0 "_law_draw" 1 ["hand", "many"] spDraw
  h_law_chain : Has P w K mg base CX0 "_law_chain" 1 ["deep", "last"] spChain
  h_law_comb : Has P w K mg base CX0 "_law_comb" 1 ["levels", "leaf", "last"] spComb
  hfilled : Has P w K mg base CX0 "filled" 3 ["bundle", "filling"] spFilled
  hmatched : Has P w K mg base CX0 "matched" 3 ["bundle", "other"] spMatched
  h_law_shown : HasG P w K mg base CX0 "_law_shown" 5 ["filling"] spShown
section
variable {P : Program} {w : World} {K : PySem.W.Frag} {mg : Str → Option Value} {base : Heap} {f : Addr} {fd : FuncData}
theorem scGreat : FnScope ["hand", "leaf", "new", "deep", "levels", "bundle", "there", "due"] ["hand"] (defScope (top 37)) := ⟨rfl, rfl, rfl, by decide +kernel, rfl, by decide +kernel, by decide +kernel⟩
theorem ok_great (F : FnT K "_law_are_great_right" (top 37) f fd) (T : Fgr P w K mg base) : FnG P w K mg base CX0 6 f fd ["hand"] spGreat := by
  have sc := scGreat
  refine fnG_of F scGreat (fun {vs H Q E} h => ?_) (fun cdv A outer s H vs Q E hg hr h => ?_)
  · obtain ⟨_, _, rfl, _⟩ := h
    rfl
  have hG := guards_deeper (env := envOfC "_law_are_great_right" (defScope (top 37)) s.heap.objs.size f cdv) hg
  have hu := hr.un
  have hu : (A.deeper (envOfC "_law_are_great_right" (defScope (top 37)) s.heap.objs.size f cdv)).units + 252 < cLine := by omega
  refine ⟨_, PSs.nox (pss_cons (ps_par (i := 1) (j := 2) (by rfl) sc.nd rfl rfl (by decide) rfl rfl (pa_cons (pe_tup (pa_cons pe_str (pa_cons (pe_callH T.h_law_draw hr pass0 (pa_cons (pv 0) (pa_cons pe_int pa_nil))) pa_nil))) (pa_cons (pe_tup (pa_cons pe_str (pa_cons (pe_tup (pa_cons pe_str (pa_cons (pe_callH T.h_law_draw hr pass0 (pa_cons (pv 0) (pa_cons pe_int pa_nil))) pa_nil))) pa_nil))) pa_nil)) (by rfl))
      (pss_cons (ps_for PassesOwn.never rfl (pi_tup (pe_tup (pa_cons (pe_tup (pa_cons pe_int (pa_cons pe_int pa_nil))) (pa_cons (pe_tup (pa_cons pe_int (pa_cons pe_int pa_nil))) (pa_cons (pe_tup (pa_cons pe_int (pa_cons pe_int pa_nil))) pa_nil))))) (pg_tup rfl (pgs_cons (pg_name (i := 3) sc.nd rfl (Or.inl rfl)) (pgs_cons (pg_name (i := 4) sc.nd rfl (Or.inl rfl)) pgs_nil))) (pss_cons (ps_set (i := 5) sc.nd rfl (Or.inl rfl) (pe_tup (pa_cons (pe_callH T.h_law_chain hr pass0 (pa_cons (pv 3) (pa_cons (pv 1) pa_nil))) (pa_cons (pe_callH T.h_law_comb hr pass0 (pa_cons (pv 4) (pa_cons (pv 1) (pa_cons (pv 1) pa_nil)))) (pa_cons (pv 1) pa_nil)))))
      (pss_one (ps_for PassesOwn.never rfl (pi_tup (pe_tup (pa_cons (pv 2) (pa_cons (pe_tup (pa_cons pe_str pa_nil)) (pa_cons (pv 1) (pa_cons (pe_tup (pa_cons pe_str (pa_cons pe_int pa_nil))) pa_nil)))))) (pg_name (i := 6) sc.nd rfl (Or.inl rfl)) (pss_cons (ps_set (i := 7) sc.nd rfl (Or.inl rfl) (pe_tup (pa_cons (pe_callH T.h_law_chain hr pass0 (pa_cons (pv 3) (pa_cons (pv 6) pa_nil))) (pa_cons (pe_callH T.h_law_comb hr pass0 (pa_cons (pv 4) (pa_cons (pv 6) (pa_cons (pv 6) pa_nil)))) (pa_cons (pv 6) pa_nil)))))
      (pss_cons (ps_if (pt_cmpR op_ne (pe_callB (call_reprD T.sys hG hu) (by rfl) T.repr (by decide +kernel) (pa_cons (pe_callH T.hfilled hr pass0 (pa_cons (pv 5) (pa_cons (pe_disp (pps_cons (pe_ix ix_tup (pv 1) pe_int (fun _ _ => rfl)) (pv 6) pps_nil) (by rfl) (by rfl) (fun z => by cases z) (by decide)) pa_nil))) pa_nil)) (pe_callB (call_reprD T.sys hG hu) (by rfl) T.repr (by decide +kernel) (pa_cons (pv 7) pa_nil)) (nomark _)) (pss_one (ps_ret pe_bl)) pss_nil)
      (pss_cons (ps_if (pt_cmpR op_ne (pe_callHG T.h_law_shown hG hr pass0 (pa_cons (pe_callH T.hmatched hr pass0 (pa_cons (pv 5) (pa_cons (pv 7) pa_nil))) pa_nil)) (pe_callHG T.h_law_shown hG hr pass0 (pa_cons (pe_disp (pps_cons (pe_ix ix_tup (pv 1) pe_int (fun _ _ => rfl)) (pv 6) pps_nil) (by rfl) (by rfl) (fun z => by cases z) (by decide)) pa_nil)) (nomark _)) (pss_one (ps_ret pe_bl)) pss_nil)
      (pss_one (ps_if (pt_cmpR op_notN (pe_callH T.hmatched hr pass0 (pa_cons (pv 5) (pa_cons (pe_tup (pa_cons (pe_callH T.h_law_chain hr pass0 (pa_cons (pv 3) (pa_cons (pv 6) pa_nil))) (pa_cons (pe_callH T.h_law_comb hr pass0 (pa_cons (pv 4) (pa_cons (pv 6) (pa_cons (pe_tup (pa_cons pe_str pa_nil)) pa_nil)))) (pa_cons (pv 6) pa_nil)))) pa_nil))) pe_non (nomark _)) (pss_one (ps_ret pe_bl)) pss_nil)))))))))
      (pss_one (ps_ret pe_bl)))), ?_⟩
  obtain ⟨l, c, rfl, hh, k⟩ := h
  refine ⟨_, rfl, l, c, 1000, rfl, by decide, by decide, hh, fun a H1 a0 a1 e1 hh1 => ⟨by show 2 ≤ sizeLine; decide, fun p hp => ?_⟩⟩
  have hh1' := hh1.mono (Ex.new (o := .tup [.str "?", .int a]) hp)
  refine ⟨_, rfl, l, c, 9, rfl, by decide, by decide, hh1', fun b H2 b0 b1 e2 hh2 => ⟨by show 2 ≤ sizeLine; decide, fun q hq => ⟨by show 2 ≤ sizeLine; decide, fun r hr' => ⟨_, _, rfl, ?_⟩⟩⟩⟩
  have e3 : Ex H2 (L2.upd (L2.upd H2 q (.tup [.str "~", .int b])) r (.tup [.str "ptr", .ref q])) := (Ex.new hq).trans (Ex.new hr')
  have tn : Tv (L2.upd (L2.upd H2 q (.tup [.str "~", .int b])) r (.tup [.str "ptr", .ref q])) (.ref r) (.node "ptr" [.node "~" [.num b]]) := .node upd_same (.cons (.node ((Ex.new hr') _ _ upd_same) (.cons (.num b) .nil)) .nil)
  have hp2 : L2.upd H1 p (.tup [.str "?", .int a]) p = some (.tup [.str "?", .int a]) := upd_same
  have hp3 := e3 _ _ (e2 _ _ (hh1'.tup hp2).1 hp2)
  have x03 : Exl l H (L2.upd (L2.upd H2 q (.tup [.str "~", .int b])) r (.tup [.str "ptr", .ref q])) := (e1.trans (Exl.of (Ex.new (o := .tup [.str "?", .int a]) hp))).trans (e2.trans (Exl.of e3))
  have hh3 := hh2.mono e3
  revert tn hp3 x03 hh3
  generalize L2.upd (L2.upd H2 q (.tup [.str "~", .int b])) r (.tup [.str "ptr", .ref q]) = H3
  intro tn hp3 x03 hh3
  clear e3 hp2 hh1' e2 e1 hh1 hh2 hr' hq hp hh
  have tl : Tv H3 (.ref p) (unkT a) := .node hp3 (.cons (.num a) .nil)
  have a1 : a < 1000 := by omega
  obtain ⟨ys, hl3⟩ := hh3.lst
  have mdl : Mons [IsDL, IsDL, IsDL] := mons_cons (monOfT IsDL.monT) (mons_cons (monOfT IsDL.monT) (mons_cons (monOfT IsDL.monT) mons_nil))
  have mth : Mons [IsTh, IsTh, IsTh, IsTh] := mons_cons (monOfT IsTh.monT) (mons_cons (monOfT IsTh.monT) (mons_cons (monOfT IsTh.monT) (mons_cons (monOfT IsTh.monT) mons_nil)))
  dsimp only
  refine q_forI (s_forI (iTup_of (x_tup (Rs := [IsDL, IsDL, IsDL]) mdl (by decide) (xa_cons (monOfT IsDL.monT) (x_dl (x := 199) (y := 2) 198 2 rfl rfl (by decide) (by decide)) (xa_cons (monOfT IsDL.monT) (x_dl (x := 3) (y := 90) 2 90 rfl rfl (by decide) (by decide)) (xa_cons (monOfT IsDL.monT) (x_dl (x := 150) (y := 88) 149 88 rfl rfl (by decide) (by decide)) xa_nil)))) fun tp vs H4 e4 htp rs => ?_))
  refine for_it (walk_tup (xs := vs)) (fun i σ' H' => ∃ x3 x4 x5 x6 x7, σ' = [some (.ref l), some (.ref p), some (.ref r), x3, x4, x5, x6, x7] ∧ Ex H4 H') ?_ ?_ ?_ ?_
  · exact ⟨_, _, _, _, _, rfl, Ex.refl H4⟩
  · rintro i σ' H' hi ⟨x3, x4, x5, x6, x7, rfl, ex⟩
    exact st_of (ex _ _ htp)
  · rintro i x σ' H' H'' hi ⟨x3, x4, x5, x6, x7, rfl, ex⟩ ⟨rfl, hx⟩
    have dl : IsDL x H'' := by
      obtain ⟨R, hR, rr⟩ := all2_get rs hx
      have hm := List.mem_of_getElem? hR
      simp only [List.mem_cons, List.not_mem_nil, or_false, or_self] at hm
      subst hm
      exact monOfT IsDL.monT _ _ _ ex rr
    obtain ⟨o, d, kk, rfl, ho, hd, hk⟩ := dl
    have e34 := e4.trans ex
    refine ⟨o, _, rfl, st_of ho, rfl, _, _, rfl, _, _, rfl, rfl, ?_⟩
    have tl1 := tl.mono (TupEx.of e34)
    have tn1 := tn.mono (TupEx.of e34)
    refine q_asgX (x_bun (ts := gE d kk (unkT a) (unkT a)) (xt_cons (x_chain rfl (x_vT (monOfT monT_tv) rfl tl1) (by omega)) (xt_cons (x_comb rfl (x_vT (monOfT monT_tv) rfl tl1) (x_vT (monOfT monT_tv) rfl tl1) (by omega)) (xt_cons (x_vT (monOfT monT_tv) rfl tl1) xt_nil))) (by show 3 ≤ 1000; decide)) fun bv H5 e5 hb => ?_
    have e35 := e34.trans e5
    have tl5 := tl1.mono (TupEx.of e5)
    have tn5 := tn1.mono (TupEx.of e5)
    refine s_forI (iTup_of (x_tup (Rs := [IsTh, IsTh, IsTh, IsTh]) mth (by decide) (xa_cons (monOfT IsTh.monT) (x_vT (monOfT IsTh.monT) rfl ⟨_, tn5, put_new b0 (by omega)⟩) (xa_cons (monOfT IsTh.monT) (x_imp (x_node (h := "int") (ts := []) xt_nil) fun v H' _ r => ⟨_, r, put_int⟩) (xa_cons (monOfT IsTh.monT) (x_vT (monOfT IsTh.monT) rfl ⟨_, tl5, put_unk a0 a1⟩) (xa_cons (monOfT IsTh.monT) (x_imp (x_node (h := "?") (ts := [.num 0]) (xt_cons x_num xt_nil)) fun v H' _ r => ⟨_, r, put_unk (a := 0) (by decide) (by decide)⟩) xa_nil))))) fun tp2 vs2 H6 e6 htp2 rs2 => ?_)
    refine for_it (walk_tup (xs := vs2)) (fun i σ' H' => ∃ x6 x7, σ' = [some (.ref l), some (.ref p), some (.ref r), some (.int (d + 1 : Nat)), some (.int (kk : Nat)), some bv, x6, x7] ∧ Ex H6 H') ?_ ?_ ?_ ?_
    · exact ⟨_, _, rfl, Ex.refl H6⟩
    · rintro i2 σ2 G hi2 ⟨x6, x7, rfl, ex2⟩
      exact st_of (ex2 _ _ htp2)
    · rintro i2 v σ2 G G' hi2 ⟨x6, x7, rfl, ex2⟩ ⟨rfl, hv⟩
      have th : IsTh v G' := by
        obtain ⟨R, hR, rr⟩ := all2_get rs2 hv
        have hm := List.mem_of_getElem? hR
        simp only [List.mem_cons, List.not_mem_nil, or_false, or_self] at hm
        subst hm
        exact monOfT IsTh.monT _ _ _ ex2 rr
      obtain ⟨t, tv, pt⟩ := th
      have e3g := e35.trans (e6.trans ex2)
      have tlg := tl.mono (TupEx.of e3g)
      have hbg := hb.mono (TupEx.of (e6.trans ex2))
      have md := gE_mat (d := d) (k := kk) hd hk a0 a1 pt.nc pt.sz pt.dp pt.nc pt.sz pt.dp
      have md2 := gE_mat (d := d) (k := kk) hd hk a0 a1 pt.nc pt.sz pt.dp nc_bit (by simp [Thg.sz, Thg.szL]) (by simp [Thg.dp, Thg.dpL])
      have gdt : Gd t := ⟨pt.nc.pl, pt.nc.sm, Nat.le_trans pt.dp (by decide), Nat.le_trans pt.sz (by decide)⟩
      have an : a.natAbs < 10 ^ 30 := Nat.lt_of_lt_of_le (show a.natAbs < 1000 by omega) (by decide)
      refine q_asgX (x_bun (ts := gE d kk t t) (xt_cons (x_chain rfl (x_vT (monOfT monT_tv) rfl tv) (by omega)) (xt_cons (x_comb rfl (x_vT (monOfT monT_tv) rfl tv) (x_vT (monOfT monT_tv) rfl tv) (by omega)) (xt_cons (x_vT (monOfT monT_tv) rfl tv) xt_nil))) (by show 3 ≤ 1000; decide)) fun dv G1 g1 hd1 => ?_
      have key : ∀ {K2 : PySem.W.Frag} {σ : L2.St} {G2 : Hp}, Ex G1 G2 → σ[1]? = some (some (.ref p)) → Ev (tOp (rIxT K2) (tVar 1) (tC (.int 1))) σ G2 (.int a) := fun {K2 σ G2} e h => ev_op (ev_var h) ev_c (rv_ixT (st_of (((e3g.trans g1).trans e) _ _ hp3)) (atI_nat (j := 1) rfl))
      refine q_when (et_rep (l := l) ⟨_, (e3g.trans g1) _ _ hl3, nofun⟩ (x_imp (x_fil (f := pairF a t) (x_vT (monOfT IsBun.monT) rfl (hbg.mono (TupEx.of g1))) (x_disp (key (Ex.refl G1) rfl) (x_vT (monOfT monT_tv) rfl (tv.mono (TupEx.of g1))) an gdt) md.nt.wf (Nat.le_trans md.st (by decide))) fun v H' _ r => by rw [gE_sub (t := t) (by unfold pairF; simp)] at r; exact r) (x_vT (monOfT IsBun.monT) rfl hd1) md.no (fun t ht => (md.oo t ht).1) md.so) (fun z => nomatch z) (fun _ G2 g2 => ?_)
      have g12 := g1.trans g2
      refine q_when (b := false) (et_is (et_test (ev_op (ev_shF numsP (x_mat (f := pairF a t) (x_vT (monOfT IsBun.monT) rfl (hbg.mono (TupEx.of g12))) (x_vT (monOfT IsBun.monT) rfl (hd1.mono (TupEx.of g2))) md gE_leads)) (ev_shF numsP (x_disp (key g2 rfl) (x_vT (monOfT monT_tv) rfl (tv.mono (TupEx.of g12))) an gdt)) (rv_ne rfl))) (by simp)) (fun z => nomatch z) (fun _ G3 g3 => ?_)
      have tv3 := tv.mono (TupEx.of (g12.trans g3))
      refine s_when (b := false) (et_is (et_test (ev_op (ev_matN (x_vT (monOfT IsBun.monT) rfl (hbg.mono (TupEx.of (g12.trans g3)))) (x_bun (ts := gE d kk t (.node "bit" [])) (xt_cons (x_chain rfl (x_vT (monOfT monT_tv) rfl tv3) (by omega)) (xt_cons (x_comb rfl (x_vT (monOfT monT_tv) rfl tv3) (x_node (h := "bit") (ts := []) xt_nil) (by omega)) (xt_cons (x_vT (monOfT monT_tv) rfl tv3) xt_nil))) (by show 3 ≤ 1000; decide)) md2 (gE_none pt.nb)) ev_c (fun H1 _ Q q => ⟨rfl, q H1 (Ex.refl H1)⟩))) (by simp)) (fun z => nomatch z) (fun _ G4 g4 => ⟨_, _, rfl, ((ex2.trans g12).trans g3).trans g4⟩)
    · rintro σ2 G ⟨x6, x7, rfl, ex2⟩
      exact ⟨_, _, _, _, _, rfl, (ex.trans e5).trans (e6.trans ex2)⟩
  · rintro σ' H' ⟨x3, x4, x5, x6, x7, rfl, ex⟩
    dsimp only
    refine s_ret (v := .bl true) ev_c fun H5 e5 => ?_
    exact k H5 (x03.trans (Exl.of ((e4.trans ex).trans e5))) (hh3.mono ((e4.trans ex).trans e5))
end
end K03
set_option maxHeartbeats 2000000
/-! Known bundles. -/
namespace K03
open PySem PySem.Spec PyProof.Rows L2 Evl LL
def wokB (s : Str) : Bool := PyData.strOk s && plainW s && decide ((reprText s).length ≤ 30)
theorem wokB_ok {s : Str} (h : wokB s = true) : WordOk s := by
  unfold wokB at h
  simp only [Bool.and_eq_true, decide_eq_true_eq] at h
  exact ⟨h.1.1, h.1.2, h.2⟩
def numB : List Thg → Bool
  | [.num n] => decide (0 ≤ n) && decide (n < 1000)
  | _ => false
theorem numB_ok : ∀ {xs : List Thg}, numB xs = true → ∃ n : Int, xs = [.num n] ∧ 0 ≤ n ∧ n < 1000
  | [.num n], h => ⟨n, rfl, by simp only [numB, Bool.and_eq_true, decide_eq_true_eq] at h; exact h⟩
  | [], h => by simp [numB] at h
  | [.word _], h => by simp [numB] at h
  | [.node _ _], h => by simp [numB] at h
  | _ :: _ :: _, h => by simp [numB] at h
mutual
def ncB : Thg → Bool
  | .num i => decide (i.natAbs < 1000)
  | .word _ => false
  | .node h xs => wokB h && (!Thg.leafy h || numB xs) && ncBL xs
def ncBL : List Thg → Bool
  | [] => true
  | x :: xs => ncB x && ncBL xs
end
mutual
theorem ncB_ok : ∀ {t : Thg}, ncB t = true → t.Nc W0
  | .num i, h => by
    simp only [ncB, decide_eq_true_eq] at h
    exact (show i.natAbs < 10 ^ 30 from Nat.lt_of_lt_of_le h (by decide))
  | .word _, h => by simp [ncB] at h
  | .node k xs, h => by
    simp only [ncB, Bool.and_eq_true] at h
    refine ⟨wokB_ok h.1.1, fun z => ?_, ncBL_ok h.2⟩
    have := h.1.2
    rw [z] at this
    obtain ⟨n, e, q⟩ := numB_ok (by simpa using this)
    exact ⟨n, e, fun _ => q⟩
theorem ncBL_ok : ∀ {ts : List Thg}, ncBL ts = true → Thg.NcL W0 ts
  | [], _ => trivial
  | _ :: _, h => by
    simp only [ncBL, Bool.and_eq_true] at h
    exact ⟨ncB_ok h.1, ncBL_ok h.2⟩
end
def oneB (ts : List Thg) : Bool := ncBL ts && ts.all (fun t => decide (t.dp ≤ 200) && decide (t.sz ≤ 60)) && decide (Thg.szL ts ≤ 10000)
structure OneL (ts : List Thg) : Prop where
  nc : Thg.NcL W0 ts
  each : ∀ t ∈ ts, t.dp ≤ 200 ∧ t.sz ≤ 60
  sz : Thg.szL ts ≤ 10000
theorem oneB_ok {ts : List Thg} (h : oneB ts = true) : OneL ts := by
  unfold oneB at h
  simp only [Bool.and_eq_true, decide_eq_true_eq, List.all_eq_true] at h
  exact ⟨ncBL_ok h.1.1, fun t ht => h.1.2 t ht, h.2⟩
theorem matD_lit {ts os : List Thg} (h : oneB ts = true) (k : oneB os = true) (l : ts.length = os.length) : MatD ts os W0 1000 60 := by
  have a := oneB_ok h
  have b := oneB_ok k
  exact ⟨a.nc, b.nc, l, fun t ht => ⟨Nat.le_trans (a.each t ht).1 (by decide), Nat.le_trans (a.each t ht).2 (by decide)⟩, fun t ht => ⟨Nat.le_trans (b.each t ht).1 (by decide), Nat.le_trans (b.each t ht).2 (by decide)⟩, a.sz, b.sz, Few.of_nc a.nc, by decide, by decide, fun t ht => (b.each t ht).2⟩
theorem leads_lit {ts os : List Thg} {f : Int → Option Thg} (e : Thg.subL f ts = os) (d : ∀ n, n ∈ Thg.unkL ts ↔ f n ≠ none) : Leads ts os f := by
  have := leads_fill d
  rw [e] at this
  exact this
def NoneR : VP := fun v _ => v = .non
theorem NoneR.mon : Mon NoneR := fun _ _ _ _ h => h
def ShT (R : VP) (s : Str) : Prop := ∀ (E : XK) (te : TE) (σ : L2.St) (H : Hp), EvX te σ H R → EvX (tCall spShown [] E (tCons te tNil)) σ H (fun v _ => v = .str s)
theorem shT_none : ShT NoneR "None" := fun E te σ H h H1 e Q q => h H1 e _ fun v H2 e2 r => .inl ⟨by rw [show v = .non from r]; rfl, fun H3 e3 => q _ H3 (e2.trans e3) rfl⟩
theorem shT_kp {f : Int → Option Thg} {ns : List Int} (nb : Numbers f ns) : ShT (IsKp f) (shF f ns) := fun E te σ H h => x_of (ev_shF nb h)
theorem paired_get {α β : Type} {r : α → β → Prop} {as : List α} {bs : List β} (h : Paired r as bs) : ∀ {i : Nat} {a : α}, as[i]? = some a → ∃ b, bs[i]? = some b ∧ r a b := by
  induction h with
  | nil => intro i a z; simp at z
  | cons p q ih =>
    intro i a z
    cases i with
    | zero => simp at z; subst z; exact ⟨_, rfl, p⟩
    | succ i => exact ih (by simpa using z)
def TxtR (s : Str) : VP := fun v _ => v = .str s
theorem x_texts {K : PySem.W.Frag} {σ : L2.St} {H : Hp} {Rs : List VP} {ss : List Str} {i j : Nat} {vs : List Nat} {E : XK} {v : V} (m : Mons Rs) (sh : Paired ShT Rs ss) (hv : σ[i]? = some (some v)) (hp : LstOf Rs v H) (hl : ss.length ≤ 40000) (hw : ∀ x, wipe ((wipe σ vs).set j (some x)) vs = wipe σ vs) (hj : ∀ x, ((wipe σ vs).set j (some x))[j]? = some (some x)) :
    EvX (tLc (iList K (tVar i)) (gName j) tYes (tCall spShown [] E (tCons (tVar j) tNil)) vs) σ H (LstOf (ss.map TxtR)) := by
  obtain ⟨a, xs, rfl, ha, rs⟩ := hp
  have l1 := rs.len
  have l2 := sh.length
  refine x_lcL (xs := xs) (a := a) (fun R hR => ?_) (ev_var hv) (sq_of ha) (by rw [List.length_map]; omega) (by omega) hw fun n x R H1 e hx hR => ?_
  · obtain ⟨s, _, rfl⟩ := List.mem_map.mp hR
    exact fun _ _ _ _ h => h
  · obtain ⟨R1, h1, h2⟩ := all2_get rs hx
    obtain ⟨s, h3, h4⟩ := paired_get sh h1
    rw [List.getElem?_map, h3] at hR
    cases hR
    exact h4 E _ _ _ (x_vT (m R1 (List.mem_of_getElem? h1)) (hj x) (m R1 (List.mem_of_getElem? h1) _ _ _ e h2))
theorem txts_eq : ∀ {ss : List Str} {vs : List V} {H : Hp}, All2 (ss.map TxtR) vs H → vs = ss.map V.str
  | [], _, _, .nil => rfl
  | _ :: _, _, _, .cons a b => by rw [show _ = _ from a, txts_eq b]; rfl
theorem dp_txts {K : PySem.W.Frag} {H : Hp} : ∀ ss : List Str, DpAll K H (ss.map V.str) (ss.map PyData.str)
  | [] => .nil
  | s :: ss => .cons (.str s) (dp_txts ss)
theorem eqv_txts : ∀ ss : List Str, PyData.eqvAll (ss.map PyData.str) (ss.map PyData.str) = true
  | [] => by simp [PyData.eqvAll]
  | s :: ss => by simp [PyData.eqvAll, PyData.eqv, eqv_txts ss]
theorem lay_txts : ∀ ss : List Str, (∀ s ∈ ss, PyData.strOk s = true) → PyData.canLayAll0 (ss.map PyData.str) = true ∧ PyData.depthAll (ss.map PyData.str) ≤ 1
  | [], _ => by simp [PyData.canLayAll0, PyData.depthAll]
  | s :: ss, h => by
    have a := lay_txts ss fun x hx => h x (List.mem_cons_of_mem _ hx)
    have b := h s List.mem_cons_self
    simp only [List.map_cons, PyData.canLayAll0, PyData.depthAll, PyData.canLay0, PyData.depth, b, a.1]
    exact ⟨rfl, by have := a.2; omega⟩
theorem shaped_txts {ss : List Str} (h : ∀ s ∈ ss, PyData.strOk s = true) : SeqAt.shaped (.list (ss.map PyData.str)) = true := by
  obtain ⟨a, b⟩ := lay_txts ss h
  simp only [SeqAt.shaped, PyData.canLay0, PyData.depth, a, Bool.true_and]
  exact decide_eq_true (by omega)
abbrev ptrT (t : Thg) : Thg := .node "ptr" [t]
abbrev intT : Thg := .node "int" []
abbrev tilT (n : Int) : Thg := .node "~" [.num n]
abbrev qT (n : Int) : Thg := .node "?" [.num n]
def spKnown : Sp := fun vs H Q _ => ∃ (l : Addr) (xs : List V), vs = [] ∧ H l = some (.lst xs) ∧ ∀ H', Ex H H' → Q (.bl true) H'
structure Fkn (P : Program) (w : World) (K : PySem.W.Frag) (mg : Str → Option Value) (base : Heap) : Prop where
  repr : mg "repr" = none
  sys : Sys K
  hfilled : Has P w K mg base CX0 "filled" 3 ["bundle", "filling"] spFilled
  hmatched : Has P w K mg base CX0 "matched" 3 ["bundle", "other"] spMatched
  h_law_shown : HasG P w K mg base CX0 "_law_shown" 5 ["filling"] spShown
def tsTwo : List Thg := [.node "pair" [qT 0, qT 1], qT 0]
def tsHere : List Thg := [qT 1, qT 0]
def osTwo : List Thg := [.node "pair" [qT 1, qT 0], qT 1]
def osHere : List Thg := [qT 0, ptrT (qT 0)]
theorem sub_two : Thg.subL (twoF 0 (qT 1) 1 (qT 0)) tsTwo = osTwo := by rfl
theorem sub_here : Thg.subL (twoF 0 (ptrT (qT 0)) 1 (qT 0)) tsHere = osHere := by rfl
theorem nl1 : NoLead [qT 0, qT 0] [intT, ptrT intT] := fun G e => by
  simp only [Thg.subL, Thg.sub, all_, if_true, Option.getD_some, List.cons.injEq, and_true] at e
  have := e.1.symm.trans e.2
  exact absurd (Thg.node.inj this).1 (by decide)
theorem nl4 : NoLead [tilT 0] [tilT 1] := fun G e => by
  have h1 : ¬ (("~" : Str) = "?") := by decide
  simp [Thg.subL, Thg.sub, h1] at e
theorem nl5 : NoLead [.num 1] [.num 2] := fun G e => by simp [Thg.subL, Thg.sub] at e
theorem nl6 : NoLead [tilT 0] [qT 0] := fun G e => by
  have h1 : ¬ (("~" : Str) = "?") := by decide
  simp only [Thg.subL, Thg.sub, h1, if_false, if_true, List.cons.injEq, Thg.node.injEq] at e
  exact e.1.1
theorem nl7 : NoLead [qT 0, qT 0] [qT 1, qT 2] := fun G e => by
  simp only [Thg.subL, Thg.sub, all_, if_true, Option.getD_some, List.cons.injEq, and_true] at e
  have := e.1.symm.trans e.2
  simp at this
theorem ld2 : Leads [qT 0] [ptrT (qT 0)] (pairF 0 (ptrT (qT 0))) := leads_lit rfl fun n => by
  rw [show Thg.unkL [qT 0] = [0] from rfl]
  unfold pairF
  by_cases q : n = 0 <;> simp [q]
theorem ld3 : Leads [.num 3, tilT 1] [.num 3, tilT 1] (fun _ => none) := leads_lit rfl fun n => by
  rw [show Thg.unkL [.num 3, tilT 1] = [] from rfl]
  simp
theorem ld8 : Leads [qT 4, qT 4] [qT 1, qT 1] (pairF 4 (qT 1)) := leads_lit rfl fun n => by
  rw [show Thg.unkL [qT 4, qT 4] = [4, 4] from rfl]
  unfold pairF
  by_cases q : n = 4 <;> simp [q]
theorem ld9 : Leads [qT 0, qT 1] [qT 1, qT 1] (twoF 0 (qT 1) 1 (qT 1)) := leads_lit rfl fun n => by
  rw [show Thg.unkL [qT 0, qT 1] = [0, 1] from rfl]
  unfold twoF
  by_cases q : n = 0
  · simp [q]
  · by_cases q1 : n = 1 <;> simp [q, q1]
theorem nums0 : Numbers (fun _ => none) [] := ⟨.nil, .nil, fun n => by simp⟩
theorem nums2 {t u : Thg} : Numbers (twoF 0 t 1 u) [0, 1] := ⟨by decide, by decide, fun n => by
  unfold twoF
  by_cases q : n = 0
  · simp [q]
  · by_cases q1 : n = 1 <;> simp [q, q1]⟩
def knR : List VP := [NoneR, IsKp (pairF 0 (ptrT (qT 0))), IsKp fun _ => none, NoneR, NoneR, NoneR, NoneR, IsKp (pairF 4 (qT 1)), IsKp (twoF 0 (qT 1) 1 (qT 1))]
def knT : List Str := ["None", shF (pairF 0 (ptrT (qT 0))) [0], shF (fun _ => none) [], "None", "None", "None", "None", shF (pairF 4 (qT 1)) [4], shF (twoF 0 (qT 1) 1 (qT 1)) [0, 1]]
theorem kn_sh : Paired ShT knR knT := .cons shT_none (.cons (shT_kp numsP) (.cons (shT_kp nums0) (.cons shT_none (.cons shT_none (.cons shT_none (.cons shT_none (.cons (shT_kp numsP) (.cons (shT_kp nums2) .nil))))))))
theorem kn_mon : Mons knR := mons_cons NoneR.mon (mons_cons IsKp.mon (mons_cons IsKp.mon (mons_cons NoneR.mon (mons_cons NoneR.mon (mons_cons NoneR.mon (mons_cons NoneR.mon (mons_cons IsKp.mon (mons_cons IsKp.mon mons_nil))))))))
theorem kn_ok : ∀ s ∈ knT, PyData.strOk s = true := by decide +kernel
theorem gd_lit {t : Thg} (h : oneB [t] = true) : Gd t := by
  have a := oneB_ok h
  exact ⟨a.nc.1.pl, a.nc.1.sm, Nat.le_trans (a.each t List.mem_cons_self).1 (by decide), Nat.le_trans (a.each t List.mem_cons_self).2 (by decide)⟩
theorem s_retQ {te : TE} {D : Ends} {σ : L2.St} {H : Hp} (h : te σ H D.rt) : tRet te D σ H := h
theorem op2 {r : R2} {ta tb : TE} {R S : VP} {σ : L2.St} {H : Hp} {Q : VK} (m : Mon R) (ha : EvX ta σ H R) (hb : EvX tb σ H S) (k : ∀ v u H2, Ex H H2 → R v H2 → S u H2 → r v u H2 Q) : tOp r ta tb σ H Q :=
  ha H (Ex.refl H) _ fun v H1 e1 r1 => hb H1 e1 _ fun u H2 e2 r2 => k v u H2 (e1.trans e2) (m _ _ _ e2 r1) r2
theorem Mons.take {Rs : List VP} (m : Mons Rs) (n : Nat) : Mons (Rs.take n) := fun R hR => m R (List.mem_of_mem_take hR)
theorem x_cat {σ : L2.St} {H : Hp} {ta tb : TE} {Rs Ss : List VP} (m1 : Mons Rs) (m2 : Mons Ss) (hl : Rs.length + Ss.length ≤ 100000) (h1 : EvX ta σ H (LstOf Rs)) (h2 : EvX tb σ H (LstOf Ss)) : EvX (tOp rCat ta tb) σ H (LstOf (Rs ++ Ss)) := fun H1 e Q q =>
  h1 H1 e _ fun x H2 e2 ⟨p, vs, ex, hp, rs⟩ => h2 H2 (e.trans e2) _ fun y H3 e3 ⟨r, us, ey, hr, ss⟩ => by
    have l1 := rs.len
    have l2 := ss.len
    refine ⟨p, r, vs, us, ex, ey, e3 _ _ hp, hr, sz_of (by omega), fun z hz => q _ _ ((e2.trans e3).trans (Ex.new hz)) ⟨z, vs ++ us, rfl, upd_same, (All2.app (rs.mono m1 e3) ss).mono ?_ (Ex.new hz)⟩⟩
    intro R hR
    exact (List.mem_append.mp hR).elim (m1 R) (m2 R)
section
variable {P : Program} {w : World} {K : PySem.W.Frag} {mg : Str → Option Value} {base : Heap} {f : Addr} {fd : FuncData}
theorem scKnown : FnScope ["told", "due", "two", "here", "one"] [] (defScope (top 34)) := ⟨rfl, rfl, rfl, by decide +kernel, rfl, by decide +kernel, by decide +kernel⟩
theorem ok_known (F : FnT K "_law_known_right" (top 34) f fd) (T : Fkn P w K mg base) : FnG P w K mg base CX0 6 f fd [] spKnown := by
  have sc := scKnown
  refine fnG_of F scKnown (fun {vs H Q E} h => ?_) (fun cdv A outer s H vs Q E hg hr h => ?_)
  · obtain ⟨_, _, rfl, _⟩ := h
    rfl
  have hG := guards_deeper (env := envOfC "_law_known_right" (defScope (top 34)) s.heap.objs.size f cdv) hg
  have hu := hr.un
  have hu : (A.deeper (envOfC "_law_known_right" (defScope (top 34)) s.heap.objs.size f cdv)).units + 252 < cLine := by omega
  refine ⟨_, PSs.nox (pss_cons (ps_asg (pe_tup (pa_cons (pe_tup (pa_cons (pe_tup (pa_cons pe_str (pa_cons (pe_tup (pa_cons pe_str (pa_cons pe_int pa_nil))) (pa_cons (pe_tup (pa_cons pe_str (pa_cons pe_int pa_nil))) pa_nil)))) (pa_cons (pe_tup (pa_cons pe_str (pa_cons pe_int pa_nil))) pa_nil))) (pa_cons (pe_tup (pa_cons (pe_tup (pa_cons pe_str (pa_cons pe_int pa_nil))) (pa_cons (pe_tup (pa_cons pe_str (pa_cons pe_int pa_nil))) pa_nil))) pa_nil))) (pg_tup rfl (pgs_cons (pg_name (i := 2) sc.nd rfl (Or.inl rfl)) (pgs_cons (pg_name (i := 3) sc.nd rfl (Or.inl rfl)) pgs_nil))))
      (pss_cons (ps_if (pt_cmpR op_ne (pe_callB (call_reprD T.sys hG hu) (by rfl) T.repr (by decide +kernel) (pa_cons (pe_callH T.hfilled hr pass0 (pa_cons (pv 2) (pa_cons (pe_disp (pps_cons pe_int (pe_tup (pa_cons pe_str (pa_cons pe_int pa_nil))) (pps_cons pe_int (pe_tup (pa_cons pe_str (pa_cons pe_int pa_nil))) pps_nil)) (by rfl) (by rfl) (fun z => by cases z) (by decide)) pa_nil))) pa_nil)) (pe_callB (call_reprD T.sys hG hu) (by rfl) T.repr (by decide +kernel) (pa_cons (pe_tup (pa_cons (pe_tup (pa_cons pe_str (pa_cons (pe_tup (pa_cons pe_str (pa_cons pe_int pa_nil))) (pa_cons (pe_tup (pa_cons pe_str (pa_cons pe_int pa_nil))) pa_nil)))) (pa_cons (pe_tup (pa_cons pe_str (pa_cons pe_int pa_nil))) pa_nil))) pa_nil)) (nomark _)) (pss_one (ps_ret pe_bl)) pss_nil)
      (pss_cons (ps_if (pt_cmpR op_ne (pe_callB (call_reprD T.sys hG hu) (by rfl) T.repr (by decide +kernel) (pa_cons (pe_callH T.hfilled hr pass0 (pa_cons (pv 3) (pa_cons (pe_disp (pps_cons pe_int (pe_tup (pa_cons pe_str (pa_cons (pe_tup (pa_cons pe_str (pa_cons pe_int pa_nil))) pa_nil))) (pps_cons pe_int (pe_tup (pa_cons pe_str (pa_cons pe_int pa_nil))) pps_nil)) (by rfl) (by rfl) (fun z => by cases z) (by decide)) pa_nil))) pa_nil)) (pe_callB (call_reprD T.sys hG hu) (by rfl) T.repr (by decide +kernel) (pa_cons (pe_tup (pa_cons (pe_tup (pa_cons pe_str (pa_cons pe_int pa_nil))) (pa_cons (pe_tup (pa_cons pe_str (pa_cons (pe_tup (pa_cons pe_str (pa_cons pe_int pa_nil))) pa_nil))) pa_nil))) pa_nil)) (nomark _)) (pss_one (ps_ret pe_bl)) pss_nil)
      (pss_cons (ps_set (i := 0) sc.nd rfl (Or.inl rfl) (pe_lst (pa_cons (pe_callH T.hmatched hr pass0 (pa_cons (pe_tup (pa_cons (pe_tup (pa_cons pe_str (pa_cons pe_int pa_nil))) (pa_cons (pe_tup (pa_cons pe_str (pa_cons pe_int pa_nil))) pa_nil))) (pa_cons (pe_tup (pa_cons (pe_tup (pa_cons pe_str pa_nil)) (pa_cons (pe_tup (pa_cons pe_str (pa_cons (pe_tup (pa_cons pe_str pa_nil)) pa_nil))) pa_nil))) pa_nil))) (pa_cons (pe_callH T.hmatched hr pass0 (pa_cons (pe_tup (pa_cons (pe_tup (pa_cons pe_str (pa_cons pe_int pa_nil))) pa_nil)) (pa_cons (pe_tup (pa_cons (pe_tup (pa_cons pe_str (pa_cons (pe_tup (pa_cons pe_str (pa_cons pe_int pa_nil))) pa_nil))) pa_nil)) pa_nil))) pa_nil))))
      (pss_cons (ps_set (i := 0) sc.nd rfl (Or.inl rfl) (pe_op op_cat (pv 0) (pe_lst (pa_cons (pe_callH T.hmatched hr pass0 (pa_cons (pe_tup (pa_cons pe_int (pa_cons (pe_tup (pa_cons pe_str (pa_cons pe_int pa_nil))) pa_nil))) (pa_cons (pe_tup (pa_cons pe_int (pa_cons (pe_tup (pa_cons pe_str (pa_cons pe_int pa_nil))) pa_nil))) pa_nil))) (pa_cons (pe_callH T.hmatched hr pass0 (pa_cons (pe_tup (pa_cons (pe_tup (pa_cons pe_str (pa_cons pe_int pa_nil))) pa_nil)) (pa_cons (pe_tup (pa_cons (pe_tup (pa_cons pe_str (pa_cons pe_int pa_nil))) pa_nil)) pa_nil))) (pa_cons (pe_callH T.hmatched hr pass0 (pa_cons (pe_tup (pa_cons pe_int pa_nil)) (pa_cons (pe_tup (pa_cons pe_int pa_nil)) pa_nil))) pa_nil))))))
      (pss_cons (ps_set (i := 0) sc.nd rfl (Or.inl rfl) (pe_op op_cat (pv 0) (pe_lst (pa_cons (pe_callH T.hmatched hr pass0 (pa_cons (pe_tup (pa_cons (pe_tup (pa_cons pe_str (pa_cons pe_int pa_nil))) pa_nil)) (pa_cons (pe_tup (pa_cons (pe_tup (pa_cons pe_str (pa_cons pe_int pa_nil))) pa_nil)) pa_nil))) (pa_cons (pe_callH T.hmatched hr pass0 (pa_cons (pe_tup (pa_cons (pe_tup (pa_cons pe_str (pa_cons pe_int pa_nil))) (pa_cons (pe_tup (pa_cons pe_str (pa_cons pe_int pa_nil))) pa_nil))) (pa_cons (pe_tup (pa_cons (pe_tup (pa_cons pe_str (pa_cons pe_int pa_nil))) (pa_cons (pe_tup (pa_cons pe_str (pa_cons pe_int pa_nil))) pa_nil))) pa_nil))) pa_nil)))))
      (pss_cons (ps_set (i := 0) sc.nd rfl (Or.inl rfl) (pe_op op_cat (pv 0) (pe_lst (pa_cons (pe_callH T.hmatched hr pass0 (pa_cons (pe_tup (pa_cons (pe_tup (pa_cons pe_str (pa_cons pe_int pa_nil))) (pa_cons (pe_tup (pa_cons pe_str (pa_cons pe_int pa_nil))) pa_nil))) (pa_cons (pe_tup (pa_cons (pe_tup (pa_cons pe_str (pa_cons pe_int pa_nil))) (pa_cons (pe_tup (pa_cons pe_str (pa_cons pe_int pa_nil))) pa_nil))) pa_nil))) (pa_cons (pe_callH T.hmatched hr pass0 (pa_cons (pe_tup (pa_cons (pe_tup (pa_cons pe_str (pa_cons pe_int pa_nil))) (pa_cons (pe_tup (pa_cons pe_str (pa_cons pe_int pa_nil))) pa_nil))) (pa_cons (pe_tup (pa_cons (pe_tup (pa_cons pe_str (pa_cons pe_int pa_nil))) (pa_cons (pe_tup (pa_cons pe_str (pa_cons pe_int pa_nil))) pa_nil))) pa_nil))) pa_nil)))))
      (pss_cons (ps_set (i := 1) sc.nd rfl (Or.inl rfl) (pe_lst (pa_cons pe_non (pa_cons (pe_disp (pps_cons pe_int (pe_tup (pa_cons pe_str (pa_cons (pe_tup (pa_cons pe_str (pa_cons pe_int pa_nil))) pa_nil))) pps_nil) (by rfl) (by rfl) (fun z => by cases z) (by decide)) (pa_cons pe_dnewK (pa_cons pe_non (pa_cons pe_non (pa_cons pe_non (pa_cons pe_non (pa_cons (pe_disp (pps_cons pe_int (pe_tup (pa_cons pe_str (pa_cons pe_int pa_nil))) pps_nil) (by rfl) (by rfl) (fun z => by cases z) (by decide)) (pa_cons (pe_disp (pps_cons pe_int (pe_tup (pa_cons pe_str (pa_cons pe_int pa_nil))) (pps_cons pe_int (pe_tup (pa_cons pe_str (pa_cons pe_int pa_nil))) pps_nil)) (by rfl) (by rfl) (fun z => by cases z) (by decide)) pa_nil)))))))))))
      (pss_one (ps_ret (pe_cmpR (op_eqD hr.units) (pe_lc (own := [("one", 4)]) (tt := tYes) rfl sc.nd (pi_list (pv 0)) (blkOk_by (N := ["told", "due", "two", "here", "one"]) (sc := defScope (top 34)) (by decide +kernel)) (fun _ _ _ _ _ => (pg_name (i := 4) sc.nd rfl (Or.inl rfl))) (fun _ _ _ _ _ => pts_nil) (fun _ _ _ _ _ => (pe_callHG T.h_law_shown hG hr pass0 (pa_cons (pv 4) pa_nil)))) (pe_lc (own := [("one", 4)]) (tt := tYes) rfl sc.nd (pi_list (pv 1)) (blkOk_by (N := ["told", "due", "two", "here", "one"]) (sc := defScope (top 34)) (by decide +kernel)) (fun _ _ _ _ _ => (pg_name (i := 4) sc.nd rfl (Or.inl rfl))) (fun _ _ _ _ _ => pts_nil) (fun _ _ _ _ _ => (pe_callHG T.h_law_shown hG hr pass0 (pa_cons (pv 4) pa_nil)))) (nomark _)))))))))))), ?_⟩
  obtain ⟨l, xs, rfl, hl, k⟩ := h
  refine q_asgG (x_tup (Rs := [IsBun tsTwo, IsBun tsHere]) (mons_cons (monOfT IsBun.monT) (mons_cons (monOfT IsBun.monT) mons_nil)) (by decide) (xa_cons (monOfT IsBun.monT) (x_bun (ts := tsTwo) (by unfold tsTwo; repeat' first | exact xt_nil | exact x_num | apply xt_cons | (refine x_node ?_ (by decide))) (by decide)) (xa_cons (monOfT IsBun.monT) (x_bun (ts := tsHere) (by unfold tsHere; repeat' first | exact xt_nil | exact x_num | apply xt_cons | (refine x_node ?_ (by decide))) (by decide)) xa_nil))) fun tv H2 e02 rt => ?_
  obtain ⟨tp, vs, rfl, htp, rs⟩ := rt
  obtain ⟨v1, v2, rfl, r1, r2⟩ : ∃ v1 v2, vs = [v1, v2] ∧ IsBun tsTwo v1 H2 ∧ IsBun tsHere v2 H2 := by
    cases rs with
    | cons a b =>
      cases b with
      | cons c d =>
        cases d
        exact ⟨_, _, rfl, a, c⟩
  refine ⟨tp, _, rfl, st_of htp, rfl, _, _, rfl, _, _, rfl, rfl, ?_⟩
  dsimp only
  refine q_when (et_rep (l := l) (ts := osTwo) ⟨_, e02 _ _ hl, nofun⟩ (x_imp (x_fil (ts := tsTwo) (f := twoF 0 (qT 1) 1 (qT 0)) (x_vT (monOfT IsBun.monT) rfl r1) (x_disp2 (t := qT 1) (u := qT 0) (fun _ => ev_c) (fun _ => by repeat' first | exact xt_nil | exact x_num | apply xt_cons | (refine x_node ?_ (by decide))) (fun _ => ev_c) (fun _ => by repeat' first | exact xt_nil | exact x_num | apply xt_cons | (refine x_node ?_ (by decide))) (by decide) (by decide) (by decide) (gd_lit (by decide +kernel)) (gd_lit (by decide +kernel))) (oneB_ok (by decide +kernel)).nc.wf (by decide +kernel)) fun v H' _ r => by rw [sub_two] at r; exact r) (x_bun (ts := osTwo) (by unfold osTwo; repeat' first | exact xt_nil | exact x_num | apply xt_cons | (refine x_node ?_ (by decide))) (by decide)) (oneB_ok (by decide +kernel)).nc (fun t ht => Nat.le_trans ((oneB_ok (ts := osTwo) (by decide +kernel)).each t ht).1 (by decide)) (by decide +kernel)) (fun z => nomatch z) (fun _ H3 e3 => ?_)
  have e03 := e02.trans e3
  refine q_when (et_rep (l := l) (ts := osHere) ⟨_, e03 _ _ hl, nofun⟩ (x_imp (x_fil (ts := tsHere) (f := twoF 0 (ptrT (qT 0)) 1 (qT 0)) (x_vT (monOfT IsBun.monT) rfl (r2.mono (TupEx.of e3))) (x_disp2 (t := ptrT (qT 0)) (u := qT 0) (fun _ => ev_c) (fun _ => by repeat' first | exact xt_nil | exact x_num | apply xt_cons | (refine x_node ?_ (by decide))) (fun _ => ev_c) (fun _ => by repeat' first | exact xt_nil | exact x_num | apply xt_cons | (refine x_node ?_ (by decide))) (by decide) (by decide) (by decide) (gd_lit (by decide +kernel)) (gd_lit (by decide +kernel))) (oneB_ok (by decide +kernel)).nc.wf (by decide +kernel)) fun v H' _ r => by rw [sub_here] at r; exact r) (x_bun (ts := osHere) (by unfold osHere; repeat' first | exact xt_nil | exact x_num | apply xt_cons | (refine x_node ?_ (by decide))) (by decide)) (oneB_ok (by decide +kernel)).nc (fun t ht => Nat.le_trans ((oneB_ok (ts := osHere) (by decide +kernel)).each t ht).1 (by decide)) (by decide +kernel)) (fun z => nomatch z) (fun _ H4 e4 => ?_)
  have e04 := e03.trans e4
  refine q_asgX (x_lst (Rs := [NoneR, IsKp (pairF 0 (ptrT (qT 0)))]) (mons_cons NoneR.mon (mons_cons IsKp.mon mons_nil)) (by decide) (xa_cons NoneR.mon (x_of (ev_matN (x_bun (ts := [qT 0, qT 0]) (by repeat' first | exact xt_nil | exact x_num | apply xt_cons | (refine x_node ?_ (by decide))) (by decide)) (x_bun (ts := [intT, ptrT intT]) (by repeat' first | exact xt_nil | exact x_num | apply xt_cons | (refine x_node ?_ (by decide))) (by decide)) (matD_lit (by decide +kernel) (by decide +kernel) rfl) nl1)) (xa_cons IsKp.mon (x_mat (x_bun (ts := [qT 0]) (by repeat' first | exact xt_nil | exact x_num | apply xt_cons | (refine x_node ?_ (by decide))) (by decide)) (x_bun (ts := [ptrT (qT 0)]) (by repeat' first | exact xt_nil | exact x_num | apply xt_cons | (refine x_node ?_ (by decide))) (by decide)) (matD_lit (by decide +kernel) (by decide +kernel) rfl) ld2) xa_nil))) fun t1 H5 e5 k1 => ?_
  refine q_asgX (x_cat (Rs := [NoneR, IsKp (pairF 0 (ptrT (qT 0)))]) (Ss := [IsKp (fun _ => none), NoneR, NoneR]) (mons_cons NoneR.mon (mons_cons IsKp.mon mons_nil)) (mons_cons IsKp.mon (mons_cons NoneR.mon (mons_cons NoneR.mon mons_nil))) (by decide) (x_vT (LstOf.mon (mons_cons NoneR.mon (mons_cons IsKp.mon mons_nil))) rfl k1) (x_lst (Rs := [IsKp (fun _ => none), NoneR, NoneR]) (mons_cons IsKp.mon (mons_cons NoneR.mon (mons_cons NoneR.mon mons_nil))) (by decide) (xa_cons IsKp.mon (x_mat (x_bun (ts := [.num 3, tilT 1]) (by repeat' first | exact xt_nil | exact x_num | apply xt_cons | (refine x_node ?_ (by decide))) (by decide)) (x_bun (ts := [.num 3, tilT 1]) (by repeat' first | exact xt_nil | exact x_num | apply xt_cons | (refine x_node ?_ (by decide))) (by decide)) (matD_lit (by decide +kernel) (by decide +kernel) rfl) ld3) (xa_cons NoneR.mon (x_of (ev_matN (x_bun (ts := [tilT 0]) (by repeat' first | exact xt_nil | exact x_num | apply xt_cons | (refine x_node ?_ (by decide))) (by decide)) (x_bun (ts := [tilT 1]) (by repeat' first | exact xt_nil | exact x_num | apply xt_cons | (refine x_node ?_ (by decide))) (by decide)) (matD_lit (by decide +kernel) (by decide +kernel) rfl) nl4)) (xa_cons NoneR.mon (x_of (ev_matN (x_bun (ts := [.num 1]) (by repeat' first | exact xt_nil | exact x_num | apply xt_cons | (refine x_node ?_ (by decide))) (by decide)) (x_bun (ts := [.num 2]) (by repeat' first | exact xt_nil | exact x_num | apply xt_cons | (refine x_node ?_ (by decide))) (by decide)) (matD_lit (by decide +kernel) (by decide +kernel) rfl) nl5)) xa_nil))))) fun t2 H6 e6 k2 => ?_
  refine q_asgX (x_cat (Ss := [NoneR, NoneR]) (Mons.take kn_mon 5) (mons_cons NoneR.mon (mons_cons NoneR.mon mons_nil)) (by decide) (x_vT (LstOf.mon (Mons.take kn_mon 5)) rfl k2) (x_lst (Rs := [NoneR, NoneR]) (mons_cons NoneR.mon (mons_cons NoneR.mon mons_nil)) (by decide) (xa_cons NoneR.mon (x_of (ev_matN (x_bun (ts := [tilT 0]) (by repeat' first | exact xt_nil | exact x_num | apply xt_cons | (refine x_node ?_ (by decide))) (by decide)) (x_bun (ts := [qT 0]) (by repeat' first | exact xt_nil | exact x_num | apply xt_cons | (refine x_node ?_ (by decide))) (by decide)) (matD_lit (by decide +kernel) (by decide +kernel) rfl) nl6)) (xa_cons NoneR.mon (x_of (ev_matN (x_bun (ts := [qT 0, qT 0]) (by repeat' first | exact xt_nil | exact x_num | apply xt_cons | (refine x_node ?_ (by decide))) (by decide)) (x_bun (ts := [qT 1, qT 2]) (by repeat' first | exact xt_nil | exact x_num | apply xt_cons | (refine x_node ?_ (by decide))) (by decide)) (matD_lit (by decide +kernel) (by decide +kernel) rfl) nl7)) xa_nil)))) fun t3 H7 e7 k3 => ?_
  refine q_asgX (x_cat (Ss := [IsKp (pairF 4 (qT 1)), IsKp (twoF 0 (qT 1) 1 (qT 1))]) (Mons.take kn_mon 7) (mons_cons IsKp.mon (mons_cons IsKp.mon mons_nil)) (by decide) (x_vT (LstOf.mon (Mons.take kn_mon 7)) rfl k3) (x_lst (Rs := [IsKp (pairF 4 (qT 1)), IsKp (twoF 0 (qT 1) 1 (qT 1))]) (mons_cons IsKp.mon (mons_cons IsKp.mon mons_nil)) (by decide) (xa_cons IsKp.mon (x_mat (x_bun (ts := [qT 4, qT 4]) (by repeat' first | exact xt_nil | exact x_num | apply xt_cons | (refine x_node ?_ (by decide))) (by decide)) (x_bun (ts := [qT 1, qT 1]) (by repeat' first | exact xt_nil | exact x_num | apply xt_cons | (refine x_node ?_ (by decide))) (by decide)) (matD_lit (by decide +kernel) (by decide +kernel) rfl) ld8) (xa_cons IsKp.mon (x_mat (x_bun (ts := [qT 0, qT 1]) (by repeat' first | exact xt_nil | exact x_num | apply xt_cons | (refine x_node ?_ (by decide))) (by decide)) (x_bun (ts := [qT 1, qT 1]) (by repeat' first | exact xt_nil | exact x_num | apply xt_cons | (refine x_node ?_ (by decide))) (by decide)) (matD_lit (by decide +kernel) (by decide +kernel) rfl) ld9) xa_nil)))) fun t4 H8 e8 k4 => ?_
  refine q_asgX (x_lst (Rs := knR) kn_mon (by decide) (xa_cons NoneR.mon (x_of ev_c) (xa_cons IsKp.mon (x_disp (t := ptrT (qT 0)) ev_c (by repeat' first | exact xt_nil | exact x_num | apply xt_cons | (refine x_node ?_ (by decide))) (by decide) (gd_lit (by decide +kernel))) (xa_cons IsKp.mon x_disp0 (xa_cons NoneR.mon (x_of ev_c) (xa_cons NoneR.mon (x_of ev_c) (xa_cons NoneR.mon (x_of ev_c) (xa_cons NoneR.mon (x_of ev_c) (xa_cons IsKp.mon (x_disp (t := qT 1) ev_c (by repeat' first | exact xt_nil | exact x_num | apply xt_cons | (refine x_node ?_ (by decide))) (by decide) (gd_lit (by decide +kernel))) (xa_cons IsKp.mon (x_disp2 (t := qT 1) (u := qT 1) (fun _ => ev_c) (fun _ => by repeat' first | exact xt_nil | exact x_num | apply xt_cons | (refine x_node ?_ (by decide))) (fun _ => ev_c) (fun _ => by repeat' first | exact xt_nil | exact x_num | apply xt_cons | (refine x_node ?_ (by decide))) (by decide) (by decide) (by decide) (gd_lit (by decide +kernel)) (gd_lit (by decide +kernel))) xa_nil)))))))))) fun t5 H9 e9 k5 => ?_
  have k49 : LstOf knR t4 H9 := LstOf.mon kn_mon _ _ _ e9 k4
  have e09 := e04.trans ((e5.trans (e6.trans (e7.trans e8))).trans e9)
  refine s_retQ (op2 (LstOf.mon fun R hR => by obtain ⟨s, _, rfl⟩ := List.mem_map.mp hR; exact fun _ _ _ _ h => h) (x_texts kn_mon kn_sh rfl k49 (by decide) (fun _ => rfl) (fun _ => rfl)) (x_texts kn_mon kn_sh rfl k5 (by decide) (fun _ => rfl) (fun _ => rfl)) fun u1 u2 G2 g2 q1 q2 => ?_)
  obtain ⟨p1, w1, rfl, hp1, z1⟩ := q1
  obtain ⟨p2, w2, rfl, hp2, z2⟩ := q2
  have y1 := txts_eq z1
  have y2 := txts_eq z2
  subst y1 y2
  refine ⟨_, _, .lst (sq_of hp1) (dp_txts knT), .lst (sq_of hp2) (dp_txts knT), shaped_txts kn_ok, shaped_txts kn_ok, ?_⟩
  have : PyData.eqv (.list (knT.map PyData.str)) (.list (knT.map PyData.str)) = true := by rw [PyData.eqv]; exact eqv_txts knT
  rw [this]
  exact k G2 (e09.trans g2)
end
end K03
set_option maxHeartbeats 2000000
/-! The law. -/
namespace K03
open PySem PySem.Spec PyProof.Rows L2 Evl LL
theorem pe_callHG0 {X : Cx} {CX : CXT} {x : Str} {j k : Nat} {ps : List Str} {sp : Sp} {E : XK} {p pos : Pos} (h : HasG X.prog X.w X.K X.mg X.base CX x k ps sp) (hG : X.A.guards = some []) (hr : Room j X.A) (hx : Passes CX X E) (hj : k ≤ j := by decide) (hg : Gl X x := by rfl) (hdb : (x == ("__debug__" : Str)) = false := by decide) :
    PE X (.Call (.Name x p) [] [] pos) (tCall sp [] E tNil) := by
  obtain ⟨f, fd, hm, hk, hb, F⟩ := h
  constructor
  intro pins s σ H Q I q1
  refine wpAny_Call_Name_kw (ld_glob I hg hm ?_ hdb)
  refine PySem.W.callWith_K0 I.kIn hk ?_
  have q2 : sp [] H Q E := q1
  have b1 := hb s [] I.kIn (F.many q2)
  refine wpAny_call (codeAny_mono (F.go hG (hr.mono hj) I.env0 b1 .nil q2) ?_)
  intro res s2 z
  match res, z with
  | .error er, z => exact hx pins σ H s er s2 I z
  | .ok (.ret u), z => exact I.after z
def spLaw (K : PySem.W.Frag) : Sp := fun vs H Q _ => ∃ (a : Addr) (ns : List Int), vs = [.ref a] ∧ SqL K H a (ns.map V.int) ∧ ns.length ≤ 63 ∧ ∀ H', Q (.bl true) H'
structure Flw (P : Program) (w : World) (K : PySem.W.Frag) (mg : Str → Option Value) (base : Heap) : Prop where
  range : mg "range" = none
  all : mg "all" = none
  h_law_hand : Has P w K mg base CX0 "_law_hand" 1 ["script"] (spHand K)
  h_law_book : Has P w K mg base CX0 "_law_book" 3 ["hand"] spBook
  h_law_known_right : HasG P w K mg base CX0 "_law_known_right" 6 [] spKnown
  h_law_are_great_right : HasG P w K mg base CX0 "_law_are_great_right" 6 ["hand"] spGreat
  h_law_is_drawn_right : HasG P w K mg base CX0 "_law_is_drawn_right" 214 ["hand", "book"] spDrawn
section
variable {P : Program} {w : World} {K : PySem.W.Frag} {mg : Str → Option Value} {base : Heap} {f : Addr} {fd : FuncData}
theorem scLaw : FnScope ["script", "hand", "turn"] ["script"] (defScope (top 38)) := ⟨rfl, rfl, rfl, by decide +kernel, rfl, by decide +kernel, by decide +kernel⟩
theorem ok_law (F : FnT K "law" (top 38) f fd) (T : Flw P w K mg base) : FnG P w K mg base CX0 215 f fd ["script"] (spLaw K) := by
  have sc := scLaw
  refine fnG_of F scLaw (fun {vs H Q E} h => ?_) (fun cdv A outer s H vs Q E hg hr h => ?_)
  · obtain ⟨a, ns, rfl, _⟩ := h
    rfl
  have hG := guards_deeper (env := envOfC "law" (defScope (top 38)) s.heap.objs.size f cdv) hg
  refine ⟨_, PSs.nox (pss_cons (ps_set (i := 1) sc.nd rfl (Or.inr rfl) (pe_callH T.h_law_hand hr pass0 (pa_cons (pv 0) pa_nil)))
      (pss_cons (ps_if (PW.pt (pw_or (pt_not (pt_val (pe_callHG0 T.h_law_known_right hG hr pass0))) (pw_or1 (pt_not (pt_val (pe_callHG T.h_law_are_great_right hG hr pass0 (pa_cons (pv 1) pa_nil))))))) (pss_one (ps_ret pe_bl)) pss_nil)
      (pss_one (ps_ret (pe_callB (cr_all rfl) (by rfl) T.all (by decide +kernel) (pa_cons (pe_lc (own := [("turn", 2)]) (tt := tYes) rfl sc.nd (pi_range1 (by rfl) T.range (pa_cons pe_int pa_nil)) (blkOk_by (N := ["script", "hand", "turn"]) (sc := defScope (top 38)) (by decide +kernel)) (fun _ _ _ _ _ => (pg_name (i := 2) sc.nd rfl (Or.inl rfl))) (fun _ _ _ _ _ => pts_nil) (fun _ _ _ _ _ => (pe_callHG T.h_law_is_drawn_right hG hr pass0 (pa_cons (pv 1) (pa_cons (pe_callH T.h_law_book hr pass0 (pa_cons (pv 1) pa_nil)) pa_nil))))) pa_nil)))))), ?_⟩
  obtain ⟨a, ns, rfl, hS, hl, k⟩ := h
  refine ⟨_, rfl, a, ns, rfl, hS, hl, fun l H1 hl1 e1 hh1 => ?_⟩
  obtain ⟨c, hh1⟩ := hh1
  obtain ⟨ys, hy⟩ := hh1.lst
  dsimp only
  refine ⟨l, ys, rfl, hy, fun H2 e2 => ⟨true, rfl, ?_⟩⟩
  refine ⟨_, rfl, l, c, rfl, hh1.mono e2, fun H3 x3 hh3 => ⟨true, rfl, ?_⟩⟩
  refine ⟨8, rfl, by decide, by decide, fun Dl hD => ?_⟩
  obtain ⟨dl, dc⟩ := hh3.new hD
  refine lcY (walk_range (lo := 0) (n := 8)) (fun j zs G => zs = (List.replicate j true).map V.bl ∧ HandC G l c) ?_ (fun _ => rfl) (fun _ _ _ _ _ => trivial) ?_ ?_
  · exact ⟨rfl, hh3.own dl dc⟩
  · rintro j z zs G G' hj lz hDl ⟨rfl, hhg⟩ ⟨rfl, _⟩
    refine ⟨_, rfl, _, rfl, l, c, rfl, hhg, fun b B H4 hb ok x4 hh4 => ?_⟩
    have hD4 := x4 _ _ dl hDl
    refine ⟨l, c, b, B, rfl, hh4, hb, ok, fun H5 x5 hh5 => ?_⟩
    have hD5 := x5 _ _ dl hD4
    refine NxC.of lz (by omega) hD5 ⟨?_, hh5.own dl dc⟩
    rw [List.replicate_succ', List.map_append]
    rfl
  · rintro zs G lz hDl ⟨rfl, hhg⟩
    refine ⟨Dl, _, rfl, sq_of hDl, ?_⟩
    have : ∀ n : Nat, (List.replicate n true).all id = true := fun n => by simp
    rw [this]
    exact k G
end
end K03
set_option maxHeartbeats 0
/-! What is asked of the head. -/
namespace K03
open PySem PySem.Spec PyProof.Rows L2
def dF (x : Str) (i : Nat) : He.DefD := ⟨(x, none), x, x, defArgs (top i), defBody (top i), defScope (top i), [], []⟩
def fn : List He.DefD := [dF "all_parts" 1, dF "built" 2, dF "things_within" 3, dF "is_open" 4, dF "root" 5, dF "headed" 6, dF "taken" 7, dF "are_same" 8, dF "filled" 10, dF "matched" 11,
  dF "_law_hand" 13, dF "_law_draw" 14, dF "_law_some" 15, dF "_law_mixed" 16, dF "_law_book" 17, dF "_law_sorts" 18, dF "_law_unknown" 19, dF "_law_thing" 20, dF "_law_bundle" 21, dF "_law_put" 22, dF "_law_filled" 23,
  dF "_law_matched" 24, dF "_law_shown" 25, dF "_law_filling" 26, dF "_law_is_put_right" 27, dF "_law_is_matched_right" 28, dF "_law_paths" 29, dF "_law_changed" 30, dF "_law_sort_of" 31, dF "_law_otherwise" 32,
  dF "_law_is_drawn_right" 33, dF "_law_known_right" 34, dF "_law_chain" 35, dF "_law_comb" 36, dF "_law_are_great_right" 37, dF "law" 38]
def freeN : List Str := ["len", "range", "isinstance", "repr", "sorted", "list", "tuple", "dict", "zip", "enumerate", "all", "any", "int", "str", "abs", "type", "ValueError"]
def fa : List He.Fa := fn.map (fun d => .glo d.name) ++ freeN.map .free
/-- the own Hook: HeadHook2's facts, and where the modules are kept -/
abbrev AlX : Type := Bool × He.AlD
def frX (g : Addr → Option Obj) (n : Nat) : PySem.W.Frag := He.frG g (sysModules :: He.asD g n)
def sysB (K : PySem.W.Frag) : Bool := match K.lookup sysModules with
  | some ⟨.type "dict", _, _, _⟩ => true
  | _ => false
def obsX (K : PySem.W.Frag) : AlX := (sysB K, He.obsD fa fn K)
def SaysX (K : PySem.W.Frag) : Prop := obsX K = (true, He.valD fn)
def obsXG (n : Nat) (g : Addr → Option Obj) : AlX := obsX (frX g n)
def hookX (n : Nat) : PySem.W.Hook where
  α := AlX
  obs := fun s => obsXG n s.heap.get?
  val := fun _ => (true, He.valD fn)
  says := fun _ h => ∃ K : PySem.W.Frag, K.In h ∧ SaysX K
  of := fun _ _ e => ⟨_, He.frG_in, e⟩
  keeps := fun _ _ _ ⟨K, hK, c⟩ k => ⟨K, PySem.W.Frag.In.keeps hK k, c⟩
abbrev R : PySem.W.OpenRow := PySem.W.OpenLaw.row PySem.Challenge.rw_nearestkinds_k03_whole_fillings
abbrev hk : PySem.W.Hook := hookX 4
def ob (s : PySem.W.SharedT) : AlX := obsXG 4 (HandSHeadRun.getT s)
theorem ob_eq (s : PySem.W.SharedT) : ob s = hk.obs s.abs := by
  have e : HandSHeadRun.getT s = s.abs.heap.get? := funext (HandSHeadRun.getT_eq s)
  show obsXG 4 (HandSHeadRun.getT s) = obsXG 4 s.abs.heap.get?
  rw [e]
def loose : List Str := (fn.map (·.name)).filter (fun x => x != ("law" : Str))
abbrev qv : Program := PySem.W.view R.prog [38]
end K03
set_option maxHeartbeats 16000000
/-! The head's facts, given to the law. -/
namespace K03
open PySem PySem.Spec PyProof.Rows L2 Evl LL
theorem law_facts {P : Program} {w : World} {K : PySem.W.Frag} {h base : Heap} {mg : Str → Option Value} (X : K.In h) (G : h.Ns mainGlobals mg) (c : SaysX K) : Flw P w K mg base := by
  have c0 : (true, He.valD fn) = obsX K := Eq.symm c
  have cD : He.SaysD fa fn K := (congrArg (fun z : AlX => z.2) c0).symm
  have c2 : sysB K = true := (congrArg (fun z : AlX => z.1) c0).symm
  have sys : Sys K := by
    unfold sysB at c2
    split at c2
    · rename_i d dt sl ho
      exact ⟨_, ho, rfl⟩
    · cases c2
  have zlen : mg "len" = none := (He.free_ok X G (cD.fact 36 (f := .free "len") rfl))
  have zrange : mg "range" = none := (He.free_ok X G (cD.fact 37 (f := .free "range") rfl))
  have zisinstance : mg "isinstance" = none := (He.free_ok X G (cD.fact 38 (f := .free "isinstance") rfl))
  have zrepr : mg "repr" = none := (He.free_ok X G (cD.fact 39 (f := .free "repr") rfl))
  have zsorted : mg "sorted" = none := (He.free_ok X G (cD.fact 40 (f := .free "sorted") rfl))
  have zlist : mg "list" = none := (He.free_ok X G (cD.fact 41 (f := .free "list") rfl))
  have ztuple : mg "tuple" = none := (He.free_ok X G (cD.fact 42 (f := .free "tuple") rfl))
  have zdict : mg "dict" = none := (He.free_ok X G (cD.fact 43 (f := .free "dict") rfl))
  have zzip : mg "zip" = none := (He.free_ok X G (cD.fact 44 (f := .free "zip") rfl))
  have zenumerate : mg "enumerate" = none := (He.free_ok X G (cD.fact 45 (f := .free "enumerate") rfl))
  have zall : mg "all" = none := (He.free_ok X G (cD.fact 46 (f := .free "all") rfl))
  have zany : mg "any" = none := (He.free_ok X G (cD.fact 47 (f := .free "any") rfl))
  have zint : mg "int" = none := (He.free_ok X G (cD.fact 48 (f := .free "int") rfl))
  have zstr : mg "str" = none := (He.free_ok X G (cD.fact 49 (f := .free "str") rfl))
  have zabs : mg "abs" = none := (He.free_ok X G (cD.fact 50 (f := .free "abs") rfl))
  have ztype : mg "type" = none := (He.free_ok X G (cD.fact 51 (f := .free "type") rfl))
  have zValueError : mg "ValueError" = none := (He.free_ok X G (cD.fact 52 (f := .free "ValueError") rfl))
  have fr : Fr mg := ⟨zlen, zlist, ztuple, ztype, zzip⟩
  have frh : FrH mg := ⟨zabs, zint, zlen, zrange, zisinstance, zValueError, zrepr, zenumerate, zany⟩
  have hthings_within : Has P w K mg base CX0 "things_within" 1 ["part"] spKids := by
    obtain ⟨fd, F⟩ := cD.def_ 2 (d := dF "things_within" 3) rfl
    exact ⟨_, fd, (He.glo_ok X G (cD.fact 2 (f := .glo "things_within") rfl)), F.kp, (F.bindsN fun _ _ _ _ _ _ us hl => match us, hl with | [_], _ => rfl), ok_kids F fr⟩
  have his_open : Has P w K mg base CX0 "is_open" 1 ["part"] spOpen := by
    obtain ⟨fd, F⟩ := cD.def_ 3 (d := dF "is_open" 4) rfl
    exact ⟨_, fd, (He.glo_ok X G (cD.fact 3 (f := .glo "is_open") rfl)), F.kp, (F.bindsN fun _ _ _ _ _ _ us hl => match us, hl with | [_], _ => rfl), ok_open F fr⟩
  have hroot : Has P w K mg base CX0 "root" 1 ["part"] (spRoot K) := by
    obtain ⟨fd, F⟩ := cD.def_ 4 (d := dF "root" 5) rfl
    exact ⟨_, fd, (He.glo_ok X G (cD.fact 4 (f := .glo "root") rfl)), F.kp, (F.bindsN fun _ _ _ _ _ _ us hl => match us, hl with | [_], _ => rfl), ok_root F fr⟩
  have hheaded : Has P w K mg base CX0 "headed" 1 ["part", "things"] spHeaded := by
    obtain ⟨fd, F⟩ := cD.def_ 5 (d := dF "headed" 6) rfl
    exact ⟨_, fd, (He.glo_ok X G (cD.fact 5 (f := .glo "headed") rfl)), F.kp, (F.bindsN fun _ _ _ _ _ _ us hl => match us, hl with | [_, _], _ => rfl), ok_headed F fr⟩
  have htaken : Has P w K mg base CX0 "taken" 1 ["stack", "many"] spTaken := by
    obtain ⟨fd, F⟩ := cD.def_ 6 (d := dF "taken" 7) rfl
    exact ⟨_, fd, (He.glo_ok X G (cD.fact 6 (f := .glo "taken") rfl)), F.kp, (F.bindsN fun _ _ _ _ _ _ us hl => match us, hl with | [_, _], _ => rfl), ok_taken F fr⟩
  have hall_parts : Has P w K mg base CX0 "all_parts" 2 ["bundle"] spAll := by
    obtain ⟨fd, F⟩ := cD.def_ 0 (d := dF "all_parts" 1) rfl
    exact ⟨_, fd, (He.glo_ok X G (cD.fact 0 (f := .glo "all_parts") rfl)), F.kp, (F.bindsN fun _ _ _ _ _ _ us hl => match us, hl with | [_], _ => rfl), ok_all F ⟨fr, hthings_within⟩⟩
  have hbuilt : Has P w K mg base CX0 "built" 2 ["parts", "filling"] spBuilt := by
    obtain ⟨fd, F⟩ := cD.def_ 1 (d := dF "built" 2) rfl
    exact ⟨_, fd, (He.glo_ok X G (cD.fact 1 (f := .glo "built") rfl)), F.kp, (F.bindsN fun _ _ _ _ _ _ us hl => match us, hl with | [_, _], _ => rfl), ok_built F ⟨⟨fr, hthings_within⟩, his_open, hheaded, htaken⟩⟩
  have hare_same : Has P w K mg base CX0 "are_same" 2 ["one", "other"] spSame := by
    obtain ⟨fd, F⟩ := cD.def_ 7 (d := dF "are_same" 8) rfl
    exact ⟨_, fd, (He.glo_ok X G (cD.fact 7 (f := .glo "are_same") rfl)), F.kp, (F.bindsN fun _ _ _ _ _ _ us hl => match us, hl with | [_, _], _ => rfl), ok_same F ⟨⟨⟨fr, hthings_within⟩, his_open, hheaded, htaken⟩, hroot⟩⟩
  have hfilled : Has P w K mg base CX0 "filled" 3 ["bundle", "filling"] spFilled := by
    obtain ⟨fd, F⟩ := cD.def_ 8 (d := dF "filled" 10) rfl
    exact ⟨_, fd, (He.glo_ok X G (cD.fact 8 (f := .glo "filled") rfl)), F.kp, (F.bindsN fun _ _ _ _ _ _ us hl => match us, hl with | [_, _], _ => rfl), ok_filled F ⟨⟨⟨fr, hthings_within⟩, his_open, hheaded, htaken⟩, hall_parts, hbuilt⟩⟩
  have hmatched : Has P w K mg base CX0 "matched" 3 ["bundle", "other"] spMatched := by
    obtain ⟨fd, F⟩ := cD.def_ 9 (d := dF "matched" 11) rfl
    exact ⟨_, fd, (He.glo_ok X G (cD.fact 9 (f := .glo "matched") rfl)), F.kp, (F.bindsN fun _ _ _ _ _ _ us hl => match us, hl with | [_, _], _ => rfl), ok_matched F ⟨⟨⟨⟨fr, hthings_within⟩, his_open, hheaded, htaken⟩, hroot⟩, hare_same⟩⟩
  have h_law_hand : Has P w K mg base CX0 "_law_hand" 1 ["script"] (spHand K) := by
    obtain ⟨fd, F⟩ := cD.def_ 10 (d := dF "_law_hand" 13) rfl
    exact ⟨_, fd, (He.glo_ok X G (cD.fact 10 (f := .glo "_law_hand") rfl)), F.kp, (F.bindsN fun _ _ _ _ _ _ us hl => match us, hl with | [_], _ => rfl), ok_hand F frh⟩
  have h_law_draw : Has P w K mg base CX0 "_law_draw" 1 ["hand", "many"] spDraw := by
    obtain ⟨fd, F⟩ := cD.def_ 11 (d := dF "_law_draw" 14) rfl
    exact ⟨_, fd, (He.glo_ok X G (cD.fact 11 (f := .glo "_law_draw") rfl)), F.kp, (F.bindsN fun _ _ _ _ _ _ us hl => match us, hl with | [_, _], _ => rfl), ok_draw F frh⟩
  have h_law_some : Has P w K mg base CX0 "_law_some" 2 ["hand", "things"] spSome := by
    obtain ⟨fd, F⟩ := cD.def_ 12 (d := dF "_law_some" 15) rfl
    exact ⟨_, fd, (He.glo_ok X G (cD.fact 12 (f := .glo "_law_some") rfl)), F.kp, (F.bindsN fun _ _ _ _ _ _ us hl => match us, hl with | [_, _], _ => rfl), ok_some F ⟨frh, h_law_draw⟩⟩
  have h_law_mixed : Has P w K mg base CX0 "_law_mixed" 2 ["hand", "things"] spMixed := by
    obtain ⟨fd, F⟩ := cD.def_ 13 (d := dF "_law_mixed" 16) rfl
    exact ⟨_, fd, (He.glo_ok X G (cD.fact 13 (f := .glo "_law_mixed") rfl)), F.kp, (F.bindsN fun _ _ _ _ _ _ us hl => match us, hl with | [_, _], _ => rfl), ok_mixed F ⟨zlen, zlist, h_law_draw⟩⟩
  have h_law_book : Has P w K mg base CX0 "_law_book" 3 ["hand"] spBook := by
    obtain ⟨fd, F⟩ := cD.def_ 14 (d := dF "_law_book" 17) rfl
    exact ⟨_, fd, (He.glo_ok X G (cD.fact 14 (f := .glo "_law_book") rfl)), F.kp, (F.bindsN fun _ _ _ _ _ _ us hl => match us, hl with | [_], _ => rfl), ok_book F ⟨zrange, ztuple, h_law_draw, h_law_some, h_law_mixed⟩⟩
  have h_law_sorts : Has P w K mg base CX0 "_law_sorts" 3 ["hand", "book", "most"] spSorts := by
    obtain ⟨fd, F⟩ := cD.def_ 15 (d := dF "_law_sorts" 18) rfl
    exact ⟨_, fd, (He.glo_ok X G (cD.fact 15 (f := .glo "_law_sorts") rfl)), F.kp, (F.bindsN fun _ _ _ _ _ _ us hl => match us, hl with | [_, _, _], _ => rfl), ok_sorts F ⟨zrange, ztuple, zlist, zlen, zsorted, h_law_draw, h_law_some⟩⟩
  have h_law_unknown : Has P w K mg base CX0 "_law_unknown" 3 ["hand", "sort", "own"] spUnknown := by
    obtain ⟨fd, F⟩ := cD.def_ 16 (d := dF "_law_unknown" 19) rfl
    exact ⟨_, fd, (He.glo_ok X G (cD.fact 16 (f := .glo "_law_unknown") rfl)), F.kp, (F.bindsN fun _ _ _ _ _ _ us hl => match us, hl with | [_, _, _], _ => rfl), ok_unknown F ⟨zrange, ztuple, zlist, zlen, zsorted, h_law_draw, h_law_some⟩⟩
  have h_law_thing : Has P w K mg base CX0 "_law_thing" 7 ["hand", "book", "sort", "deep", "own"] (spThing 4) := by
    obtain ⟨fd, F⟩ := cD.def_ 17 (d := dF "_law_thing" 20) rfl
    exact ⟨_, fd, (He.glo_ok X G (cD.fact 17 (f := .glo "_law_thing") rfl)), F.kp, (F.bindsN fun _ _ _ _ _ _ us hl => match us, hl with | [_, _, _, _, _], _ => rfl), thing_all F zlen zdict ztuple h_law_draw h_law_some h_law_unknown (He.glo_ok X G (cD.fact 17 (f := .glo "_law_thing") rfl)) F.kp (F.bindsN fun _ _ _ _ _ _ us hl => match us, hl with | [_, _, _, _, _], _ => rfl) 4⟩
  have h_law_bundle : Has P w K mg base CX0 "_law_bundle" 8 ["hand", "book", "sorts", "deep", "own"] spBundle := by
    obtain ⟨fd, F⟩ := cD.def_ 18 (d := dF "_law_bundle" 21) rfl
    exact ⟨_, fd, (He.glo_ok X G (cD.fact 18 (f := .glo "_law_bundle") rfl)), F.kp, (F.bindsN fun _ _ _ _ _ _ us hl => match us, hl with | [_, _, _, _, _], _ => rfl), ok_bundle F ⟨zdict, ztuple, h_law_thing⟩⟩
  have h_law_filling : Has P w K mg base CX0 "_law_filling" 8 ["hand", "book", "own", "numbers", "known"] spFilling := by
    obtain ⟨fd, F⟩ := cD.def_ 23 (d := dF "_law_filling" 26) rfl
    exact ⟨_, fd, (He.glo_ok X G (cD.fact 23 (f := .glo "_law_filling") rfl)), F.kp, (F.bindsN fun _ _ _ _ _ _ us hl => match us, hl with | [_, _, _, _, _], _ => rfl), ok_filling F ⟨zdict, ztuple, h_law_thing⟩⟩
  have h_law_put : Has P w K mg base CX0 "_law_put" 210 ["thing", "filling"] (spPut 210) := by
    obtain ⟨fd, F⟩ := cD.def_ 19 (d := dF "_law_put" 22) rfl
    exact ⟨_, fd, (He.glo_ok X G (cD.fact 19 (f := .glo "_law_put") rfl)), F.kp, (F.bindsN fun _ _ _ _ _ _ us hl => match us, hl with | [_, _], _ => rfl), put_all F fr zisinstance (He.glo_ok X G (cD.fact 19 (f := .glo "_law_put") rfl)) F.kp (F.bindsN fun _ _ _ _ _ _ us hl => match us, hl with | [_, _], _ => rfl) 210⟩
  have h_law_filled : Has P w K mg base CX0 "_law_filled" 211 ["bundle", "filling"] spLFilled := by
    obtain ⟨fd, F⟩ := cD.def_ 20 (d := dF "_law_filled" 23) rfl
    exact ⟨_, fd, (He.glo_ok X G (cD.fact 20 (f := .glo "_law_filled") rfl)), F.kp, (F.bindsN fun _ _ _ _ _ _ us hl => match us, hl with | [_, _], _ => rfl), ok_law_filled F ⟨fr, h_law_put⟩⟩
  have h_law_matched : HasG P w K mg base CX0 "_law_matched" 5 ["bundle", "other"] spLMat := by
    obtain ⟨fd, F⟩ := cD.def_ 21 (d := dF "_law_matched" 24) rfl
    exact ⟨_, fd, (He.glo_ok X G (cD.fact 21 (f := .glo "_law_matched") rfl)), F.kp, (F.bindsN fun _ _ _ _ _ _ us hl => match us, hl with | [_, _], _ => rfl), ok_law_matched F ⟨fr, zisinstance, zrepr, sys⟩⟩
  have h_law_shown : HasG P w K mg base CX0 "_law_shown" 5 ["filling"] spShown := by
    obtain ⟨fd, F⟩ := cD.def_ 22 (d := dF "_law_shown" 25) rfl
    exact ⟨_, fd, (He.glo_ok X G (cD.fact 22 (f := .glo "_law_shown") rfl)), F.kp, (F.bindsN fun _ _ _ _ _ _ us hl => match us, hl with | [_], _ => rfl), ok_law_shown F ⟨zrepr, zsorted, sys⟩⟩
  have h_law_is_put_right : HasG P w K mg base CX0 "_law_is_put_right" 212 ["hand", "bundle", "filling"] spPutR := by
    obtain ⟨fd, F⟩ := cD.def_ 24 (d := dF "_law_is_put_right" 27) rfl
    exact ⟨_, fd, (He.glo_ok X G (cD.fact 24 (f := .glo "_law_is_put_right") rfl)), F.kp, (F.bindsN fun _ _ _ _ _ _ us hl => match us, hl with | [_, _, _], _ => rfl), ok_put_right F ⟨zrepr, zisinstance, zdict, sys, hfilled, h_law_filled, hmatched, h_law_matched, h_law_shown⟩⟩
  have h_law_is_matched_right : HasG P w K mg base CX0 "_law_is_matched_right" 7 ["bundle", "other"] spMatR := by
    obtain ⟨fd, F⟩ := cD.def_ 25 (d := dF "_law_is_matched_right" 28) rfl
    exact ⟨_, fd, (He.glo_ok X G (cD.fact 25 (f := .glo "_law_is_matched_right") rfl)), F.kp, (F.bindsN fun _ _ _ _ _ _ us hl => match us, hl with | [_, _], _ => rfl), ok_matched_right F ⟨zrepr, zisinstance, zdict, sys, hfilled, h_law_filled, hmatched, h_law_matched, h_law_shown⟩⟩
  have h_law_paths : Has P w K mg base CX0 "_law_paths" 1 ["bundle"] spPaths := by
    obtain ⟨fd, F⟩ := cD.def_ 26 (d := dF "_law_paths" 29) rfl
    exact ⟨_, fd, (He.glo_ok X G (cD.fact 26 (f := .glo "_law_paths") rfl)), F.kp, (F.bindsN fun _ _ _ _ _ _ us hl => match us, hl with | [_], _ => rfl), ok_paths F ⟨zlen, zenumerate, zisinstance, ztuple⟩⟩
  have h_law_changed : Has P w K mg base CX0 "_law_changed" 180 ["thing", "path", "new"] (spChg 180) := by
    obtain ⟨fd, F⟩ := cD.def_ 27 (d := dF "_law_changed" 30) rfl
    exact ⟨_, fd, (He.glo_ok X G (cD.fact 27 (f := .glo "_law_changed") rfl)), F.kp, (F.bindsN fun _ _ _ _ _ _ us hl => match us, hl with | [_, _, _], _ => rfl), chg_all F zlen (He.glo_ok X G (cD.fact 27 (f := .glo "_law_changed") rfl)) F.kp (F.bindsN fun _ _ _ _ _ _ us hl => match us, hl with | [_, _, _], _ => rfl) 180⟩
  have h_law_sort_of : Has P w K mg base CX0 "_law_sort_of" 1 ["book", "thing", "known"] spSortOf := by
    obtain ⟨fd, F⟩ := cD.def_ 28 (d := dF "_law_sort_of" 31) rfl
    exact ⟨_, fd, (He.glo_ok X G (cD.fact 28 (f := .glo "_law_sort_of") rfl)), F.kp, (F.bindsN fun _ _ _ _ _ _ us hl => match us, hl with | [_, _, _], _ => rfl), ok_sort_of F zisinstance ztuple zstr⟩
  have h_law_otherwise : Has P w K mg base CX0 "_law_otherwise" 181 ["hand", "book", "bundle", "known"] spOther := by
    obtain ⟨fd, F⟩ := cD.def_ 29 (d := dF "_law_otherwise" 32) rfl
    exact ⟨_, fd, (He.glo_ok X G (cD.fact 29 (f := .glo "_law_otherwise") rfl)), F.kp, (F.bindsN fun _ _ _ _ _ _ us hl => match us, hl with | [_, _, _, _], _ => rfl), ok_other F ⟨zisinstance, ztuple, zstr, zdict, h_law_some, h_law_paths, h_law_sort_of, h_law_changed, h_law_thing⟩⟩
  have h_law_is_drawn_right : HasG P w K mg base CX0 "_law_is_drawn_right" 214 ["hand", "book"] spDrawn := by
    obtain ⟨fd, F⟩ := cD.def_ 30 (d := dF "_law_is_drawn_right" 33) rfl
    exact ⟨_, fd, (He.glo_ok X G (cD.fact 30 (f := .glo "_law_is_drawn_right") rfl)), F.kp, (F.bindsN fun _ _ _ _ _ _ us hl => match us, hl with | [_, _], _ => rfl), ok_drawn F ⟨zlen, zdict, ztuple, zrange, zsorted, zall, h_law_draw, h_law_mixed, h_law_sorts, h_law_bundle, h_law_filling, h_law_filled, hmatched, h_law_shown, h_law_is_put_right, h_law_is_matched_right, h_law_otherwise⟩⟩
  have h_law_known_right : HasG P w K mg base CX0 "_law_known_right" 6 [] spKnown := by
    obtain ⟨fd, F⟩ := cD.def_ 31 (d := dF "_law_known_right" 34) rfl
    exact ⟨_, fd, (He.glo_ok X G (cD.fact 31 (f := .glo "_law_known_right") rfl)), F.kp, (F.bindsN fun _ _ _ _ _ _ us hl => match us, hl with | [], _ => rfl), ok_known F ⟨zrepr, sys, hfilled, hmatched, h_law_shown⟩⟩
  have h_law_chain : Has P w K mg base CX0 "_law_chain" 1 ["deep", "last"] spChain := by
    obtain ⟨fd, F⟩ := cD.def_ 32 (d := dF "_law_chain" 35) rfl
    exact ⟨_, fd, (He.glo_ok X G (cD.fact 32 (f := .glo "_law_chain") rfl)), F.kp, (F.bindsN fun _ _ _ _ _ _ us hl => match us, hl with | [_, _], _ => rfl), ok_chain F ⟨zrange⟩⟩
  have h_law_comb : Has P w K mg base CX0 "_law_comb" 1 ["levels", "leaf", "last"] spComb := by
    obtain ⟨fd, F⟩ := cD.def_ 33 (d := dF "_law_comb" 36) rfl
    exact ⟨_, fd, (He.glo_ok X G (cD.fact 33 (f := .glo "_law_comb") rfl)), F.kp, (F.bindsN fun _ _ _ _ _ _ us hl => match us, hl with | [_, _, _], _ => rfl), ok_comb F ⟨zrange⟩⟩
  have h_law_are_great_right : HasG P w K mg base CX0 "_law_are_great_right" 6 ["hand"] spGreat := by
    obtain ⟨fd, F⟩ := cD.def_ 34 (d := dF "_law_are_great_right" 37) rfl
    exact ⟨_, fd, (He.glo_ok X G (cD.fact 34 (f := .glo "_law_are_great_right") rfl)), F.kp, (F.bindsN fun _ _ _ _ _ _ us hl => match us, hl with | [_], _ => rfl), ok_great F ⟨zrepr, sys, h_law_draw, h_law_chain, h_law_comb, hfilled, hmatched, h_law_shown⟩⟩
  exact ⟨zrange, zall, h_law_hand, h_law_book, h_law_known_right, h_law_are_great_right, h_law_is_drawn_right⟩
theorem facts {P : Program} {w : World} {K : PySem.W.Frag} {h : Heap} {mg : Str → Option Value} {f : Addr} (X : K.In h) (G : h.Ns mainGlobals mg) (hfa : mg ("law" : Str) = some (.ref f)) (c : SaysX K) :
    ∃ fd : FuncData, (∀ (s : Shared) (v : Value), BindsTo s fd ⟨[v], []⟩ [("script", v)]) ∧ ∀ base : Heap, K.In base → base.Ns mainGlobals mg → FnG P w K mg base CX0 215 f fd ["script"] (spLaw K) := by
  have cD : He.SaysD fa fn K := (congrArg (fun z : AlX => z.2) (show (true, He.valD fn) = obsX K from Eq.symm c)).symm
  obtain ⟨fd, F⟩ := cD.def_ 35 (d := dF "law" 38) rfl
  have e := hfa.symm.trans (He.glo_ok X G (cD.fact 35 (f := .glo "law") rfl))
  cases e
  have b := FunD.bindsA (ps := ["script"]) F fun _ _ _ _ _ _ us hl => match us, hl with | [_], _ => rfl
  exact ⟨fd, fun s v => b s [v] rfl, fun base _ _ => ok_law F (law_facts X G c)⟩
end K03
set_option maxHeartbeats 0
namespace K03
open PySem PySem.Spec PyProof.Rows L2
theorem run (w : World) : HandSHeadRun.RunEq R qv hk ob 12000 loose w := by
  intro os
  kernel_rfl
end K03
set_option maxHeartbeats 0
open PySem PySem.W PySem.Calls PyProof.Rows
theorem PySem.Challenge.cw_nearestkinds_k03_whole_fillings_holds : PySem.Challenge.rw_nearestkinds_k03_whole_fillings.Holds := by
  w_on; o_law
  refine HandSHeadRun.head_any (r := OpenLaw.row PySem.Challenge.rw_nearestkinds_k03_whole_fillings) (q := view (OpenLaw.row PySem.Challenge.rw_nearestkinds_k03_whole_fillings).prog [38]) (H := K03.hk) (ob := K03.ob) (M := 12000) (loose := K03.loose) (d := HandSHeadRun.topDef (OpenLaw.row PySem.Challenge.rw_nearestkinds_k03_whole_fillings).prog 38) (kwd := []) K03.ob_eq
    (by kernel_rfl) (fun s => by kernel_rfl) K03.run (by kernel_rfl) (by kernel_rfl) (by kernel_rfl) (by rfl) (by first | assumption | decide +kernel) (by decide +kernel) ⟨rfl, rfl, rfl, rfl, rfl, by decide +kernel⟩ ?hw ?hc
  case hw => w_witness2
  case hc =>
    refine LL.walk_ofG (l := PySem.Challenge.rw_nearestkinds_k03_whole_fillings) (n := 63) (k := 215) (x := "script") (CX := L2.CX0) rfl (by decide) (by kernel_rfl) ⟨rfl, by decide, by decide⟩ ?F (fun _ _ _ _ z => z)
    intro w mg fa h Y G hmg0
    obtain ⟨K, KX, c⟩ := Y
    have hmg : mg ("law" : PySem.Str) = some (.ref fa) := by
      have e : (HandSHeadRun.topDef (OpenLaw.row PySem.Challenge.rw_nearestkinds_k03_whole_fillings).prog 38).name = ("law" : PySem.Str) := by kernel_rfl
      rw [← e]
      exact hmg0
    obtain ⟨fd, hb, hF⟩ := K03.facts (P := (PySem.Challenge.rw_nearestkinds_k03_whole_fillings).prog) (w := w) KX G hmg c
    exact ⟨K, fd, K03.spLaw K, KX, hb, fun H a ns hl _ hS => ⟨a, ns, rfl, hS, hl, fun _ => rfl⟩, hF⟩
