import PyProof.Rows.All
import Wide.All
import OpenK.AllK
import Wide.FinOn
import PyProof.ZipIter
import HandS.Zip0
import HandS.Base
import HandS.Call
import HandS.List
import HandS.Evl
import HandS.Zip
import KE.KTurns
import PyProof.EqAt
import PyProof.EqKinds
import PyProof.TupleCall
import KE.KRevSl
import HandS.Style
import PyProof.AutoSeq1
import PyProof.ReprRoads
import HandS.Dict
import HandS.Words
import HandS.Ends
import HandS.HeadEnd
import HandS.Defaults
import KE.KExcIs
import HandS.Exc
import HandS.ExcOwn
import HandS.ExcInit
import HandS.ExcField
import HandS.IsInst
import HandS.ExcValue
import HandS.HeadHook1
import HandS.Comp
import HandS.WordsList
import HandS.WordsExc
import HandS.Walk
import HandS.More
import HandS.SetKeys
import HandS.Star
import PyProof.P3Eq
import HandS.TupAny
import HandS.Iter
import HandS.Deep
import HandS.TupSets
import KE.KeyNested
import KE.SortCalls
import KE.SortData
import PyProof.Rows.ReprOcc
import PyProof.FitsInt
import PyProof.ReprText
import PyProof.StrLaws
import HandS.RaiseMore
import PyProof.ReprStr
import HandS.Small
import HandS.TupLe
import KE.KStateDown
import HandS.Head0
import HandS.Head1
import HandS.Head2
import HandS.HeadHook2
import PySem.Challenge.RW_nearestkinds_k10_whole_neat
set_option Elab.async false
set_option linter.all false
set_option maxRecDepth 100000
set_option maxHeartbeats 4000000
/-! list(zip(t, u)) of two tuples. -/
namespace LL
open PySem PySem.Spec PyProof.Rows
open PySem.Sem (wp)
theorem wpAny_alive {M : Model} {A : Around} {E : Value → Shared → Prop} {s : Shared} {a : Addr} {Q : Option Obj → Shared → Prop} (h : Q (s.heap.get? a) s) : wpAny M A (loadIfAlive a) Q E s := fun Γ p _ => by
  show wp M Γ (.loadIfAlive a .pure) _ _ p s
  rw [Sem.wp_loadIfAlive]
  simpa using h
/-- a zip that has handed a tuple out, which lives -/
def ZipOut (h : Heap) (z TI TO T : Addr) : Prop := (∃ f1 : Bool, h.get? z = some { cls := .type "zip", dict := none, data := .fields #[rawInt T, .bool f1, .bool false, .ref TI, .ref TO], slots := #[] }) ∧ ∃ o, h.get? T = some o ∧ o.cls = .type "tuple"
section
variable {prog : Program} {w : World} {A : Around} {E : Value → Shared → Prop} {s : Shared}
theorem free_no {z TI TO T : Addr} {Q : Bool → Shared → Prop} (hz : ZipOut s.heap z TI TO T) (ne : T ≠ z) (h : ∀ h', ZipOut h' z TI TO T → Heap.SameBut z s.heap h' → Q false { s with heap := h' }) : wpAny (model prog w) A (Builtin.SmallTypes.ownedTupleIsFree (.ref z)) Q E s := by
  obtain ⟨⟨f1, hz⟩, o, ho, hc⟩ := hz
  unfold Builtin.SmallTypes.ownedTupleIsFree
  refine wpAny_bind (wpAny_field hz rfl (x := rawInt T) rfl ?_)
  show wpAny _ _ (loadIfAlive ((T : Int)).toNat >>= _) _ _ s
  rw [Int.toNat_natCast]
  refine wpAny_bind (wpAny_alive ?_)
  rw [ho]
  simp only [Option.isNone_some, Bool.false_eq_true, if_false]
  refine wpAny_bind (wpAny_field hz rfl (x := .bool f1) rfl ?_)
  cases f1 with
  | true =>
    rw [if_neg (by decide)]
    exact wpAny_pure (h _ ⟨⟨true, hz⟩, o, ho, hc⟩ (Heap.SameBut.refl ..))
  | false =>
    rw [if_pos (by decide)]
    refine wpAny_bind (wpAny_setField_rec hz (by simp) fun h₁ hz₁ hs₁ => wpAny_pure (h h₁ ⟨⟨true, hz₁⟩, o, hs₁.extBut _ _ ne ho, hc⟩ hs₁))
theorem zipOut_item {z TI TO T i1 i2 l1 l2 : Addr} {k1 k2 : Nat} {xs ys : Array Value} {x y : Value} {Q : Value → Shared → Prop} (D : ZipApart z TI TO i1 i2 l1 l2) (Tz : T ≠ z) (T1 : T ≠ i1) (T2 : T ≠ i2)
    (hz : ZipOut s.heap z TI TO T) (hTI : PySem.IsPair s.heap TI (.ref i1) (.ref i2)) (h1 : s.heap.IsTupleIter i1 l1 k1) (h2 : s.heap.IsTupleIter i2 l2 k2) (hl1 : s.heap.IsTuple l1 xs) (hl2 : s.heap.IsTuple l2 ys) (hx : xs[k1]? = some x) (hy : ys[k2]? = some y)
    (hQ : ∀ h', ZipOut h' z TI TO T → h'.IsTupleIter i1 l1 (k1 + 1) → h'.IsTupleIter i2 l2 (k2 + 1) → PySem.IsPair h' s.heap.objs.size x y → h'.objs.size = s.heap.objs.size + 1 →
      (∀ c o, c ≠ z → c ≠ i1 → c ≠ i2 → s.heap.get? c = some o → h'.get? c = some o) → Q (.ref s.heap.objs.size) { s with heap := h' }) :
    wpAny (model prog w) A (Builtin.«zip.__next__» ⟨[.ref z], []⟩) (fun fin s' => ∃ v, fin = .done (.ret v) ∧ Q v s') E s := by
  obtain ⟨⟨f1, hz0⟩, oT, hoT, hcT⟩ := id hz
  show wpAny _ _ (field (.ref z) 2 >>= _) _ _ _
  refine wpAny_bind (wpAny_field hz0 rfl (x := .bool false) rfl ?_)
  show wpAny _ _ (field (.ref z) 3 >>= _) _ _ _
  refine wpAny_bind (wpAny_field hz0 rfl (x := .ref TI) rfl ?_)
  refine wpAny_bind (wpAny_seqItems hTI rfl ?_)
  show wpAny _ _ (Builtin.SmallTypes.ownedTupleIsFree (.ref z) >>= _) _ _ _
  refine wpAny_bind (free_no hz Tz fun h₁ hz₁ hs₁ => ?_)
  simp only [Bool.false_eq_true, if_false]
  rw [← Array.forIn_toList]
  simp only [List.forIn_cons, List.forIn_nil]
  have h1₁ := h1.extBut hs₁.extBut D.i1z
  have h2₁ := h2.extBut hs₁.extBut D.i2z
  have hl1₁ := hl1.extBut hs₁.extBut D.l1z
  have hl2₁ := hl2.extBut hs₁.extBut D.l2z
  refine wpAny_bind (wpAny_bind (wpAny_bind (wpAny_holding ?_)))
  show wpAny _ _ (Builtin.SmallTypes.nextOf (.ref i1) >>= _) _ _ _
  refine wpAny_bind (RZ.nextOf_tuple_item h1₁ hl1₁ hx fun h₂ h1₂ hs₂ => wpAny_pure ?_)
  refine wpAny_pure ?_
  refine wpAny_bind (wpAny_bind (wpAny_holding ?_))
  show wpAny _ _ (Builtin.SmallTypes.nextOf (.ref i2) >>= _) _ _ _
  refine wpAny_bind (RZ.nextOf_tuple_item (h2₁.extBut hs₂.extBut D.i12.symm) (hl2₁.extBut hs₂.extBut D.l2i1) hy fun h₃ h2₃ hs₃ => wpAny_pure ?_)
  refine wpAny_pure (wpAny_pure ?_)
  refine wpAny_bind (wpAny_newTuple ?_ (by show 2 ≤ sizeLine; decide))
  have hsz : h₃.objs.size = s.heap.objs.size := by rw [hs₃.1, hs₂.1, hs₁.1]
  have up : ∀ c o, c ≠ z → c ≠ i1 → c ≠ i2 → s.heap.get? c = some o → h₃.get? c = some o := fun c o c1 c2 c3 e => hs₃.extBut _ _ c3 (hs₂.extBut _ _ c2 (hs₁.extBut _ _ c1 e))
  have h1₃ : h₃.IsTupleIter i1 l1 (k1 + 1) := h1₂.extBut hs₃.extBut D.i12
  refine wpAny_pure ⟨_, rfl, ?_⟩
  show Q (.ref h₃.objs.size) _
  obtain ⟨⟨f2, z2⟩, oT2, hT2, hc2⟩ := hz₁
  have z3 := hs₃.extBut _ _ D.i2z.symm (hs₂.extBut _ _ D.i1z.symm z2)
  have t3 := hs₃.extBut _ _ T2 (hs₂.extBut _ _ T1 hT2)
  rw [hsz]
  refine hQ _ ⟨⟨f2, Heap.get?_push_of_some _ z3⟩, _, Heap.get?_push_of_some _ t3, hc2⟩ (h1₃.at fun o e => Heap.get?_push_of_some _ e) (h2₃.at fun o e => Heap.get?_push_of_some _ e) ?_ ?_ fun c o c1 c2 c3 e => Heap.get?_push_of_some _ (up c o c1 c2 c3 e)
  · rw [← hsz]; exact Heap.get?_push_size _ rfl
  · rw [Heap.size_push, hsz]
theorem zipOut_end {z TI TO T i1 i2 l1 l2 : Addr} {k1 k2 : Nat} {xs ys : Array Value} {Q : Fin → Shared → Prop} (hh : A.handled = none) (D : ZipApart z TI TO i1 i2 l1 l2) (Tz : T ≠ z)
    (hz : ZipOut s.heap z TI TO T) (hTI : PySem.IsPair s.heap TI (.ref i1) (.ref i2)) (h1 : s.heap.IsTupleIter i1 l1 k1) (h2 : s.heap.IsTupleIter i2 l2 k2) (hl1 : s.heap.IsTuple l1 xs) (hl2 : s.heap.IsTuple l2 ys) (hend : xs[k1]? = none ∨ ys[k2]? = none)
    (hE : ∀ h' e, (∀ c o, c ≠ z → c ≠ i1 → c ≠ i2 → s.heap.get? c = some o → h'.get? c = some o) → (∃ o, h'.get? e = some o ∧ o.cls = .type "StopIteration") → E (.ref e) { s with heap := h' }) :
    wpAny (model prog w) A (Builtin.«zip.__next__» ⟨[.ref z], []⟩) Q E s := by
  obtain ⟨⟨f1, hz0⟩, oT, hoT, hcT⟩ := id hz
  show wpAny _ _ (field (.ref z) 2 >>= _) _ _ _
  refine wpAny_bind (wpAny_field hz0 rfl (x := .bool false) rfl ?_)
  show wpAny _ _ (field (.ref z) 3 >>= _) _ _ _
  refine wpAny_bind (wpAny_field hz0 rfl (x := .ref TI) rfl ?_)
  refine wpAny_bind (wpAny_seqItems hTI rfl ?_)
  show wpAny _ _ (Builtin.SmallTypes.ownedTupleIsFree (.ref z) >>= _) _ _ _
  refine wpAny_bind (free_no hz Tz fun h₁ hz₁ hs₁ => ?_)
  simp only [Bool.false_eq_true, if_false]
  rw [← Array.forIn_toList]
  simp only [List.forIn_cons, List.forIn_nil]
  have h1₁ := h1.extBut hs₁.extBut D.i1z
  have h2₁ := h2.extBut hs₁.extBut D.i2z
  have hl1₁ := hl1.extBut hs₁.extBut D.l1z
  have hl2₁ := hl2.extBut hs₁.extBut D.l2z
  refine wpAny_bind (wpAny_bind (wpAny_bind (wpAny_holding ?_)))
  show wpAny _ _ (Builtin.SmallTypes.nextOf (.ref i1) >>= _) _ _ _
  cases hx : xs[k1]? with
  | none =>
    refine wpAny_bind (RZ.nextOf_tuple_end hh h1₁ hl1₁ hx fun h₂ e hs₂ he => ?_)
    exact hE h₂ e (fun c o c1 c2 c3 q => hs₂ _ _ c2 (hs₁.extBut _ _ c1 q)) he
  | some x =>
    have hy : ys[k2]? = none := by
      rcases hend with h | h
      · rw [hx] at h; cases h
      · exact h
    refine wpAny_bind (RZ.nextOf_tuple_item h1₁ hl1₁ hx fun h₂ h1₂ hs₂ => wpAny_pure ?_)
    refine wpAny_pure ?_
    refine wpAny_bind (wpAny_bind (wpAny_holding ?_))
    show wpAny _ _ (Builtin.SmallTypes.nextOf (.ref i2) >>= _) _ _ _
    refine wpAny_bind (RZ.nextOf_tuple_end hh (h2₁.extBut hs₂.extBut D.i12.symm) (hl2₁.extBut hs₂.extBut D.l2i1) hy fun h₃ e hs₃ he => ?_)
    exact hE h₃ e (fun c o c1 c2 c3 q => hs₃ _ _ c3 (hs₂.extBut _ _ c2 (hs₁.extBut _ _ c1 q))) he
/-- what stands between two draws: the zip, its iterators, what was drawn -/
structure Zi (B z TI TO i1 i2 l1 l2 : Addr) (xs ys acc : Array Value) (h : Heap) : Prop where
  sz : B ≤ h.objs.size
  fr : ∀ v ∈ acc.toList, ∃ T : Addr, v = Value.ref T ∧ B ≤ T
  nd : acc.toList.Nodup
  zp : (acc.size = 0 ∧ PySem.IsZip h z TI TO .none) ∨ ∃ T, T ≠ z ∧ T ≠ i1 ∧ T ≠ i2 ∧ ZipOut h z TI TO T
  ti : PySem.IsPair h TI (.ref i1) (.ref i2)
  to : ∃ a b, PySem.IsPair h TO a b
  h1 : h.IsTupleIter i1 l1 acc.size
  h2 : h.IsTupleIter i2 l2 acc.size
  hl1 : h.IsTuple l1 xs
  hl2 : h.IsTuple l2 ys
  its : ∀ (j : Nat) (v : Value), acc[j]? = some v → ∃ (T : Addr) (x y : Value), v = Value.ref T ∧ xs[j]? = some x ∧ ys[j]? = some y ∧ PySem.IsPair h T x y ∧ T ≠ z ∧ T ≠ TO ∧ T ≠ i1 ∧ T ≠ i2
variable {B z TI TO i1 i2 l1 l2 : Addr} {xs ys acc : Array Value}
theorem Zi.typ (Z : Zi B z TI TO i1 i2 l1 l2 xs ys acc s.heap) : s.TypeIs (.ref z) "zip" := by
  rcases Z.zp with ⟨_, h⟩ | ⟨_, _, _, _, ⟨_, h⟩, _⟩
  · exact ⟨_, h, rfl⟩
  · exact ⟨_, h, rfl⟩
theorem Zi.pushed {h h' : Heap} {T : Addr} {x y : Value} (Z : Zi B z TI TO i1 i2 l1 l2 xs ys acc h) (D : ZipApart z TI TO i1 i2 l1 l2) (hT : ∀ o, h.get? T ≠ some o) (hB : B ≤ T) (hB' : B ≤ h'.objs.size) (hx : xs[acc.size]? = some x) (hy : ys[acc.size]? = some y)
    (zp : ∃ T', T' ≠ z ∧ T' ≠ i1 ∧ T' ≠ i2 ∧ ZipOut h' z TI TO T') (to : ∃ a b, PySem.IsPair h' TO a b) (a1 : h'.IsTupleIter i1 l1 (acc.size + 1)) (a2 : h'.IsTupleIter i2 l2 (acc.size + 1)) (p : PySem.IsPair h' T x y)
    (up : ∀ c o, c ≠ z → c ≠ TO → c ≠ i1 → c ≠ i2 → h.get? c = some o → h'.get? c = some o) : Zi B z TI TO i1 i2 l1 l2 xs ys (acc.push (.ref T)) h' := by
  have nz : T ≠ z := fun e => by
    rcases Z.zp with ⟨_, q⟩ | ⟨_, _, _, _, ⟨_, q⟩, _⟩ <;> exact hT _ (by rw [e]; exact q)
  have nO : T ≠ TO := fun e => by
    obtain ⟨a, b, q⟩ := Z.to
    exact hT _ (by rw [e]; exact q)
  have n1 : T ≠ i1 := fun e => by
    obtain ⟨_, q, _⟩ := Z.h1
    exact hT _ (by rw [e]; exact q)
  have n2 : T ≠ i2 := fun e => by
    obtain ⟨_, q, _⟩ := Z.h2
    exact hT _ (by rw [e]; exact q)
  have nd : (acc.push (.ref T)).toList.Nodup := by
    rw [Array.toList_push, List.nodup_append]
    refine ⟨Z.nd, by simp, fun a ha b hb e => ?_⟩
    rw [List.mem_singleton.mp hb] at e
    obtain ⟨j, hj, ej⟩ := List.getElem_of_mem ha
    have hj2 : acc[j]? = some a := by rw [← ej, ← Array.getElem?_toList, List.getElem?_eq_getElem hj]
    obtain ⟨T', x', y', e1, _, _, e4, _⟩ := Z.its j a hj2
    rw [e1] at e
    cases e
    exact hT _ e4
  have fr : ∀ v ∈ (acc.push (.ref T)).toList, ∃ T : Addr, v = Value.ref T ∧ B ≤ T := fun v hv => by
    rw [Array.toList_push] at hv
    rcases List.mem_append.mp hv with q | q
    · exact Z.fr v q
    · exact ⟨T, List.mem_singleton.mp q, hB⟩
  refine ⟨hB', fr, nd, .inr zp, up _ _ D.TIz D.TITO D.TIi1 D.TIi2 Z.ti, to, by rw [Array.size_push]; exact a1, by rw [Array.size_push]; exact a2, Z.hl1.at fun o e => up _ o D.l1z D.l1TO D.l1i1 D.l1i2 e, Z.hl2.at fun o e => up _ o D.l2z D.l2TO D.l2i1 D.l2i2 e, fun j v hj => ?_⟩
  rw [Array.getElem?_push] at hj
  split at hj
  · rename_i e
    cases hj
    exact ⟨T, x, y, rfl, by rw [e]; exact hx, by rw [e]; exact hy, p, nz, nO, n1, n2⟩
  · obtain ⟨T', x', y', e1, e2, e3, e4, e5, e6, e7, e8⟩ := Z.its j v hj
    exact ⟨T', x', y', e1, e2, e3, up _ _ e5 e6 e7 e8 e4, e5, e6, e7, e8⟩
theorem Zi.next {Q : Option Value → Shared → Prop} (Z : Zi B z TI TO i1 i2 l1 l2 xs ys acc s.heap) (D : ZipApart z TI TO i1 i2 l1 l2) (hx : acc.size < xs.size) (hy : acc.size < ys.size)
    (hQ : ∀ T h', Zi B z TI TO i1 i2 l1 l2 xs ys (acc.push (.ref T)) h' → (∀ c o, c ≠ z → c ≠ TO → c ≠ i1 → c ≠ i2 → s.heap.get? c = some o → h'.get? c = some o) → Q (some (.ref T)) { s with heap := h' }) : wpAny (model prog w) A (pyNext (.ref z)) Q E s := by
  have ex := Array.getElem?_eq_getElem hx
  have ey := Array.getElem?_eq_getElem hy
  have fresh : ∀ o, s.heap.get? s.heap.objs.size ≠ some o := fun o q => absurd (Heap.lt_size q) (Nat.lt_irrefl _)
  have ne : ∀ {c : Addr} {o : Obj}, s.heap.get? c = some o → s.heap.objs.size ≠ c := fun q => Nat.ne_of_gt (Heap.lt_size q)
  have n1 : s.heap.objs.size ≠ i1 := by obtain ⟨_, q, _⟩ := Z.h1; exact ne q
  have n2 : s.heap.objs.size ≠ i2 := by obtain ⟨_, q, _⟩ := Z.h2; exact ne q
  rcases Z.zp with ⟨_, hz⟩ | ⟨T, Tz, T1, T2, hz⟩
  · obtain ⟨a, b, hTO⟩ := Z.to
    refine RZ.pyNext_zipT_item D hz Z.ti hTO Z.h1 Z.h2 Z.hl1 Z.hl2 ex ey fun h' b1 b2 b3 b4 b5 b6 b7 => hQ _ h' (Z.pushed D fresh Z.sz (by rw [b6]; exact Nat.le_succ_of_le Z.sz) ex ey ⟨_, ne hz, n1, n2, ⟨false, b1⟩, _, b5, rfl⟩ ⟨_, _, b2⟩ b3 b4 b5 b7) b7
  · obtain ⟨f1, q⟩ := hz.1
    obtain ⟨a, b, hTO⟩ := Z.to
    have hT : s.TypeIs (.ref z) "zip" := Z.typ
    unfold pyNext
    refine wpAny_bind (wpAny_attempt (wpAny_callSpecial?_slot (name := Str.ofString "__next__") hT F.slot_zip_next (wpAny_call_entry F.slot_zip_next hT F.entry_zip_next
      (zipOut_item D Tz T1 T2 hz Z.ti Z.h1 Z.h2 Z.hl1 Z.hl2 ex ey fun h' b1 b3 b4 b5 b6 b7 => wpAny_pure ?_) (F.args_zip_next_1 _))))
    have up : ∀ c o, c ≠ z → c ≠ TO → c ≠ i1 → c ≠ i2 → s.heap.get? c = some o → h'.get? c = some o := fun c o c1 _ c3 c4 e => b7 c o c1 c3 c4 e
    exact hQ _ h' (Z.pushed D fresh Z.sz (by rw [b6]; exact Nat.le_succ_of_le Z.sz) ex ey ⟨T, Tz, T1, T2, b1⟩ ⟨a, b, b7 _ _ D.TOz D.TOi1 D.TOi2 hTO⟩ b3 b4 b5 up) up
theorem Zi.stop {Q : Option Value → Shared → Prop} (hh : A.handled = none) (Z : Zi B z TI TO i1 i2 l1 l2 xs ys acc s.heap) (D : ZipApart z TI TO i1 i2 l1 l2) (hend : xs.size ≤ acc.size ∨ ys.size ≤ acc.size)
    (hQ : ∀ h', (∀ c o, c ≠ z → c ≠ TO → c ≠ i1 → c ≠ i2 → s.heap.get? c = some o → h'.get? c = some o) → Q none { s with heap := h' }) : wpAny (model prog w) A (pyNext (.ref z)) Q E s := by
  have he : xs[acc.size]? = none ∨ ys[acc.size]? = none := hend.imp Array.getElem?_eq_none Array.getElem?_eq_none
  obtain ⟨a, b, hTO⟩ := Z.to
  rcases Z.zp with ⟨_, hz⟩ | ⟨T, Tz, T1, T2, hz⟩
  · exact RZ.pyNext_zipT_end hh D hz Z.ti hTO Z.h1 Z.h2 Z.hl1 Z.hl2 he fun h' k => hQ h' k
  · have hT : s.TypeIs (.ref z) "zip" := Z.typ
    unfold pyNext
    refine wpAny_bind (wpAny_attempt (wpAny_callSpecial?_slot (name := Str.ofString "__next__") hT F.slot_zip_next (wpAny_call_entry F.slot_zip_next hT F.entry_zip_next
      (zipOut_end (by first | exact hh | rfl) D Tz hz Z.ti Z.h1 Z.h2 Z.hl1 Z.hl2 he fun h' e k q => ?_) (F.args_zip_next_1 _))))
    obtain ⟨o, ho, hc⟩ := q
    refine wpAny_bind (wpAny_isInstance (T := "StopIteration") (b := true) ⟨o, ho, hc⟩ isSubtype_stop ?_)
    exact wpAny_pure (hQ _ fun c o c1 _ c3 c4 e => k c o c1 c3 c4 e)
theorem zip_no_len : typeLookup (.type "zip") "__len__" = pure none := by rw [typeLookup_type, builtinLookup_eq_fast]; kernel_rfl
theorem zip_no_hint : typeLookup (.type "zip") "__length_hint__" = pure none := by rw [typeLookup_type, builtinLookup_eq_fast]; kernel_rfl
abbrev LstAt (h : Heap) (S : Addr) (acc : Array Value) : Prop := ∃ c, h.get? S = some { cls := .type "list", dict := none, data := .seq acc c, slots := #[] }
/-- the list at S has no part in it -/
theorem Zi.keep {h h' : Heap} {S : Addr} {acc0 : Array Value} (Z : Zi B z TI TO i1 i2 l1 l2 xs ys acc h) (hS : LstAt h S acc0) (hB : h.objs.size ≤ h'.objs.size) (k : ∀ b o, b ≠ S → h.get? b = some o → h'.get? b = some o) : Zi B z TI TO i1 i2 l1 l2 xs ys acc h' := by
  obtain ⟨c, hS⟩ := hS
  have ap : ∀ {b : Addr} {o : Obj}, h.get? b = some o → o.cls ≠ .type "list" → h'.get? b = some o := fun {b o} e n => k b o (fun q => by
    subst q
    rw [hS] at e
    cases e
    exact n rfl) e
  have nT : ∀ {a b : Value}, ({ cls := .type "tuple", data := .seq #[a, b] } : Obj).cls ≠ .type "list" := fun q => by simp at q
  refine ⟨Nat.le_trans Z.sz hB, Z.fr, Z.nd, ?_, ap Z.ti nT, ?_, ?_, ?_, ?_, ?_, fun j v hj => ?_⟩
  · rcases Z.zp with ⟨e, q⟩ | ⟨T, n1, n2, n3, ⟨f1, q⟩, o, ho⟩
    · exact .inl ⟨e, ap q (by simp)⟩
    · exact .inr ⟨T, n1, n2, n3, ⟨f1, ap q (by simp)⟩, o, ap ho.1 (by rw [ho.2]; simp), ho.2⟩
  · obtain ⟨a, b, q⟩ := Z.to
    exact ⟨a, b, ap q nT⟩
  · obtain ⟨o, q, hc, r⟩ := Z.h1
    exact ⟨o, ap q (by rw [hc]; simp), hc, r⟩
  · obtain ⟨o, q, hc, r⟩ := Z.h2
    exact ⟨o, ap q (by rw [hc]; simp), hc, r⟩
  · obtain ⟨o, q, hc, r⟩ := Z.hl1
    exact ⟨o, ap q (by rw [hc]; simp), hc, r⟩
  · obtain ⟨o, q, hc, r⟩ := Z.hl2
    exact ⟨o, ap q (by rw [hc]; simp), hc, r⟩
  · obtain ⟨T, x, y, e1, e2, e3, e4, r⟩ := Z.its j v hj
    exact ⟨T, x, y, e1, e2, e3, ap e4 nT, r⟩
theorem Zi.keepL {h h' : Heap} {S : Addr} {acc0 : Array Value} (Z : Zi B z TI TO i1 i2 l1 l2 xs ys acc h) (D : ZipApart z TI TO i1 i2 l1 l2) (hS : LstAt h S acc0) (k : ∀ c o, c ≠ z → c ≠ TO → c ≠ i1 → c ≠ i2 → h.get? c = some o → h'.get? c = some o) : LstAt h' S acc0 := by
  obtain ⟨c, hS⟩ := hS
  refine ⟨c, k _ _ (fun e => ?_) (fun e => ?_) (fun e => ?_) (fun e => ?_) hS⟩
  · subst e
    rcases Z.zp with ⟨_, q⟩ | ⟨_, _, _, _, ⟨_, q⟩, _⟩ <;> exact absurd (hS.symm.trans q) (by simp)
  · subst e
    obtain ⟨a, b, q⟩ := Z.to
    exact absurd (hS.symm.trans q) (by simp)
  · subst e
    obtain ⟨o, q, hc, _⟩ := Z.h1
    rw [hS] at q
    cases q
    simp at hc
  · subst e
    obtain ⟨o, q, hc, _⟩ := Z.h2
    rw [hS] at q
    cases q
    simp at hc
/-- the loop that draws all -/
theorem zip_loop {R : Result → Shared → Prop} {S : Addr} {res : Value} (hh : A.handled = none) (D : ZipApart z TI TO i1 i2 l1 l2) (hn : min xs.size ys.size ≤ sizeLine) : ∀ (k : Nat) (s : Shared) (acc : Array Value), min xs.size ys.size - acc.size = k → acc.size ≤ min xs.size ys.size → Zi B z TI TO i1 i2 l1 l2 xs ys acc s.heap → LstAt s.heap S acc →
    (∀ h' acc', acc'.size = min xs.size ys.size → ((∀ v ∈ acc'.toList, ∃ T : Addr, v = Value.ref T ∧ B ≤ T) ∧ acc'.toList.Nodup) → LstAt h' S acc' → (∀ (j : Nat) (v : Value), acc'[j]? = some v → ∃ (T : Addr) (x y : Value), v = Value.ref T ∧ xs[j]? = some x ∧ ys[j]? = some y ∧ PySem.IsPair h' T x y) →
      (∀ c o, c ≠ S → c ≠ z → c ≠ TO → c ≠ i1 → c ≠ i2 → s.heap.get? c = some o → h'.get? c = some o) → R (.ok (.ret res)) { s with heap := h' }) →
    codeAny (model prog w) A (.builtin "list.extend.loop" ⟨[.ref S, .ref z, res], []⟩) R s := by
  intro k
  induction k with
  | zero =>
    intro s acc hk hle Z hS hR
    refine codeAny_builtin F.entry_extend_loop ?_
    rw [Around.under_plainId F.plain_extend_loop _]
    show wpAny _ A.in1 (pyNext (.ref z) >>= _) _ _ s
    refine wpAny_bind (Z.stop (by first | exact hh | rfl) D (by omega) fun h' up => ?_)
    refine wpAny_pure (hR h' acc (by omega) ⟨Z.fr, Z.nd⟩ (Z.keepL D hS up) (fun j v hj => ?_) fun c o _ c1 c2 c3 c4 e => up c o c1 c2 c3 c4 e)
    obtain ⟨T, x, y, e1, e2, e3, e4, n1, n2, n3, n4⟩ := Z.its j v hj
    exact ⟨T, x, y, e1, e2, e3, up _ _ n1 n2 n3 n4 e4⟩
  | succ k ih =>
    intro s acc hk hle Z hS hR
    refine codeAny_builtin F.entry_extend_loop ?_
    rw [Around.under_plainId F.plain_extend_loop _]
    show wpAny _ A.in1 (pyNext (.ref z) >>= _) _ _ s
    refine wpAny_bind (Z.next D (by omega) (by omega) fun T h' Z' up => ?_)
    have S1 := Z.keepL D hS up
    obtain ⟨c, hS1⟩ := id S1
    show wpAny _ A.in1 (updateSeq S (·.push (.ref T)) >>= _) _ _ _
    refine wpAny_bind ?_
    have oth : ∀ b o, b ≠ S → h'.get? b = some o → (h'.update S (Obj.mapSeq (·.push (Value.ref T)))).get? b = some o := fun b o hb e => (Heap.get?_update_other _ _ (Ne.symm hb)).trans e
    refine wpAny_updateSeq (s := { s with heap := h' }) hS1 rfl (wpAny_pure ⟨plainId_quiet F.plain_extend_loop _, ih _ (acc.push (.ref T)) (by rw [Array.size_push]; omega) (by rw [Array.size_push]; omega) (Z'.keep S1 (Nat.le_of_eq (Heap.SameBut.update ..).1.symm) oth) ⟨_, Heap.get?_update_self _ hS1 rfl⟩ fun h'' acc' e1 e2 e3 e4 e5 => ?_⟩) (by omega) (by show (acc.push (Value.ref T)).size ≤ sizeLine + 1; rw [Array.size_push]; omega)
    exact hR h'' acc' e1 e2 e3 e4 fun c o n0 n1 n2 n3 n4 e => e5 c o n0 n1 n2 n3 n4 (oth c o n0 (up c o n1 n2 n3 n4 e))
/-- what is told of a list that was drawn from a zip -/
def Drawn (B z TO i1 i2 S : Addr) (xs ys : Array Value) (h h' : Heap) (acc : Array Value) : Prop :=
  acc.size = min xs.size ys.size ∧ ((∀ v ∈ acc.toList, ∃ T : Addr, v = Value.ref T ∧ B ≤ T) ∧ acc.toList.Nodup) ∧ LstAt h' S acc ∧ (∀ (j : Nat) (v : Value), acc[j]? = some v → ∃ (T : Addr) (x y : Value), v = Value.ref T ∧ xs[j]? = some x ∧ ys[j]? = some y ∧ PySem.IsPair h' T x y) ∧
    (∀ c o, c ≠ S → c ≠ z → c ≠ TO → c ≠ i1 → c ≠ i2 → h.get? c = some o → h'.get? c = some o)
theorem zip_extend {R : Result → Shared → Prop} {S : Addr} {res : Value} {c₀ : Nat} (hh : A.handled = none) (D : ZipApart z TI TO i1 i2 l1 l2) (hn : min xs.size ys.size ≤ sizeLine) (Z : Zi B z TI TO i1 i2 l1 l2 xs ys #[] s.heap) (zs : PySem.IsZip s.heap z TI TO .none)
    (hS : s.heap.get? S = some { cls := .type "list", data := .seq #[] c₀ }) (hR : ∀ h' acc, Drawn B z TO i1 i2 S xs ys s.heap h' acc → R (.ok (.ret res)) { s with heap := h' }) :
    wpAny (model prog w) A.in1 (Builtin.List.listExtendWith (.ref S) (.ref z) res) (fun fin s' => match fin with | .done f => R (.ok f) s' | .again c' => c'.quiet = true ∧ codeAny (model prog w) A c' R s') (fun e s' => R (.error e) s') s := by
  have hT := Z.typ
  have Sz : S ≠ z := fun e => by
    subst e
    obtain ⟨o, q, hc⟩ := hT
    rw [hS] at q
    cases q
    simp at hc
  have b1 : Builtin.List.listSameRef (.ref S) (.ref z) = false := by simp [Builtin.List.listSameRef, Sz]
  have b2 : (Value.type "zip" == Value.type "list") = false := by decide
  have b3 : (Value.type "zip" == Value.type "tuple") = false := by decide
  unfold Builtin.List.listExtendWith
  refine wpAny_bind (wpAny_typeOf hT ?_)
  simp only [b1, b2, b3, Bool.or_false, Bool.false_eq_true, if_false]
  refine wpAny_bind ?_
  refine wpAny_pyIter_zip zs ?_
  refine wpAny_bind (wpAny_holding ?_)
  unfold Builtin.List.listLengthHint
  refine wpAny_bind (wpAny_specialOf hT zip_no_len ?_)
  show wpAny _ A.in1 (specialOf (Value.ref z) (Str.ofString "__length_hint__") >>= _) _ _ _
  refine wpAny_bind (wpAny_specialOf hT zip_no_hint (wpAny_pure ?_))
  show wpAny _ A.in1 (rule "list.extend.makes-room" >>= fun _ => Builtin.List.listTouch (.ref S) >>= fun _ => again (.builtin "list.extend.loop" ⟨[.ref S, .ref z, res], []⟩)) _ _ _
  refine wpAny_bind (wpAny_rule (wpAny_bind ?_))
  show wpAny _ A.in1 (updateSeq S (·.push .none) >>= fun _ => updateSeq S (·.pop)) _ _ _
  refine wpAny_bind (wpAny_updateSeq hS rfl ?_)
  have h2 := Heap.get?_update_self (Obj.mapSeq (·.push Value.none)) hS rfl
  refine wpAny_updateSeq (hz := by seq_fits) h2 rfl ?_
  have h3 := Heap.get?_update_self (Obj.mapSeq (·.pop)) h2 rfl
  have oth : ∀ b o, b ≠ S → s.heap.get? b = some o → ((s.heap.update S (Obj.mapSeq (·.push Value.none))).update S (Obj.mapSeq (·.pop))).get? b = some o :=
    fun b o hb e => (Heap.get?_update_other _ _ (Ne.symm hb)).trans ((Heap.get?_update_other _ _ (Ne.symm hb)).trans e)
  refine wpAny_pure ⟨plainId_quiet F.plain_extend_loop _, zip_loop hh D hn _ _ #[] rfl (Nat.zero_le _) (Z.keep ⟨_, hS⟩ (by first | exact Nat.le_of_eq (((Heap.SameBut.update ..).1.trans (Heap.SameBut.update ..).1).symm) | simp) oth) ⟨_, h3⟩ fun h' acc' e1 e0 e2 e3 e4 => hR h' acc' ⟨e1, e0, e2, e3, fun c o n0 n1 n2 n3 n4 e => e4 c o n0 n1 n2 n3 n4 (oth c o n0 e)⟩⟩
theorem zip_init {R : Result → Shared → Prop} {S : Addr} (hh : A.handled = none) (D : ZipApart z TI TO i1 i2 l1 l2) (hn : min xs.size ys.size ≤ sizeLine) (Z : Zi B z TI TO i1 i2 l1 l2 xs ys #[] s.heap) (zs : PySem.IsZip s.heap z TI TO .none)
    (hS : s.heap.get? S = some { cls := .type "list", data := .seq #[] }) (hR : ∀ h' acc, Drawn B z TO i1 i2 S xs ys s.heap h' acc → R (.ok (.ret .none)) { s with heap := h' }) :
    wpAny (model prog w) A.in1 (Builtin.«list.__init__» ⟨[.ref S, .ref z], []⟩) (fun fin s' => match fin with | .done f => R (.ok f) s' | .again c' => c'.quiet = true ∧ codeAny (model prog w) A c' R s') (fun e s' => R (.error e) s') s := by
  show wpAny _ A.in1 (do let old ← Builtin.List.listItems (.ref S); Builtin.List.listUpdate (.ref S) (fun _ => #[]); letGo old.toList.reverse; Builtin.List.listExtendWith (.ref S) (.ref z) .none) _ _ s
  refine wpAny_bind ?_
  unfold Builtin.List.listItems
  refine wpAny_bind (wpAny_seqItems hS rfl (wpAny_pure ?_))
  show wpAny _ A.in1 (updateSeq S (fun _ => #[]) >>= fun _ => letGo (#[] : Array Value).toList.reverse >>= fun _ => Builtin.List.listExtendWith (.ref S) (.ref z) .none) _ _ s
  refine wpAny_bind (wpAny_updateSeq hS rfl ?_)
  have h2 := Heap.get?_update_self (Obj.mapSeq (fun _ => (#[] : Array Value))) hS rfl
  have oth : ∀ b o, b ≠ S → s.heap.get? b = some o → (s.heap.update S (Obj.mapSeq (fun _ => (#[] : Array Value)))).get? b = some o := fun b o hb e => (Heap.get?_update_other _ _ (Ne.symm hb)).trans e
  have Sz : z ≠ S := fun e => by
    subst e
    exact absurd (hS.symm.trans zs) (by simp)
  refine wpAny_bind (wpAny_letGo ?_)
  refine zip_extend hh D hn (Z.keep ⟨_, hS⟩ (Nat.le_of_eq (Heap.SameBut.update ..).1.symm) oth) (oth _ _ Sz zs) h2 fun h' acc d => hR h' acc ⟨d.1, d.2.1, d.2.2.1, d.2.2.2.1, fun c o n0 n1 n2 n3 n4 e => d.2.2.2.2 c o n0 n1 n2 n3 n4 (oth c o n0 e)⟩
theorem call_list_zip {Q : Value → Shared → Prop} (hh : A.handled = none) (D : ZipApart z TI TO i1 i2 l1 l2) (hn : min xs.size ys.size ≤ sizeLine) (Z : Zi B z TI TO i1 i2 l1 l2 xs ys #[] s.heap) (zs : PySem.IsZip s.heap z TI TO .none)
    (hQ : ∀ h' acc, Drawn B z TO i1 i2 s.heap.objs.size xs ys s.heap h' acc → Q (.ref s.heap.objs.size) { s with heap := h' }) : wpAny (model prog w) A (call (.type "list") [.ref z]) Q E s := by
  refine callType_codes (Q₁ := fun obj s₁ => obj = .ref s.heap.objs.size ∧ s₁ = { s with heap := s.heap.push { cls := .type "list", data := .seq #[] } }) F.called_list (F.typeCall_list_1 _) F.entry_list_init (code_list_new _ ⟨rfl, rfl⟩) fun obj s₁ h₁ => ?_
  obtain ⟨rfl, rfl⟩ := h₁
  have hS : (s.heap.push { cls := .type "list", data := .seq #[] }).get? s.heap.objs.size = some { cls := .type "list", data := .seq #[] } := Heap.get?_push_size _ rfl
  have up : ∀ b o, s.heap.get? b = some o → (s.heap.push { cls := .type "list", data := .seq #[] }).get? b = some o := fun b o e => Heap.get?_push_of_some _ e
  have Z2 : Zi B z TI TO i1 i2 l1 l2 xs ys #[] (s.heap.push { cls := .type "list", data := .seq #[] }) := by
    refine ⟨by rw [Heap.size_push]; exact Nat.le_succ_of_le Z.sz, Z.fr, Z.nd, .inl ⟨rfl, up _ _ zs⟩, up _ _ Z.ti, ?_, Z.h1.at fun o e => up _ o e, Z.h2.at fun o e => up _ o e, Z.hl1.at fun o e => up _ o e, Z.hl2.at fun o e => up _ o e, fun j v hj => by simp at hj⟩
    obtain ⟨a, b, q⟩ := Z.to
    exact ⟨a, b, up _ _ q⟩
  refine ⟨⟨_, hS, rfl⟩, F.args_list_init_2 _ _, zip_init (s := { s with heap := s.heap.push { cls := .type "list", data := .seq #[] } }) (by first | exact hh | rfl) D hn Z2 (up _ _ zs) hS fun h' acc d => ?_⟩
  exact ⟨rfl, hQ h' acc ⟨d.1, d.2.1, d.2.2.1, d.2.2.2.1, fun c o n0 n1 n2 n3 n4 e => d.2.2.2.2 c o n0 n1 n2 n3 n4 (up _ _ e)⟩⟩
end
end LL
set_option maxHeartbeats 4000000
/-! list(zip(t, u)) as a rule. -/
namespace LL
open PySem PySem.Spec PyProof.Rows L2
/-- H with new objects -/
def over (H : Hp) (l : List (Addr × HO)) : Hp := fun b => match l.lookup b with
  | some o => some o
  | none => H b
theorem over_old {H : Hp} {l : List (Addr × HO)} {b : Addr} (h : l.lookup b = none) : over H l b = H b := by
  unfold over
  rw [h]
theorem over_new {H : Hp} {l : List (Addr × HO)} {b : Addr} {o : HO} (h : l.lookup b = some o) : over H l b = some o := by
  unfold over
  rw [h]
section
variable {X : Cx} {pins : List (Addr × Obj)} {σ : L2.St} {H : Hp} {s : Shared}
theorem inv_news {h' : Heap} {t' : Nat} {l : List (Addr × HO)} (I : Inv X pins σ H s) (k : ∀ b u, s.heap.get? b = some u → h'.get? b = some u) (hl : ∀ b o, l.lookup b = some o → s.heap.objs.size ≤ b ∧ ObjOk X.prog X.w (over H l) h' b o) :
    Inv X pins σ (over H l) { s with heap := h', toks := t' } := by
  have old : ∀ b, b < s.heap.objs.size → over H l b = H b := fun b hb => by
    refine over_old ?_
    cases e : l.lookup b with
    | none => rfl
    | some o => exact absurd (Nat.lt_of_lt_of_le hb (hl b o e).1) (Nat.lt_irrefl _)
  have oldT : ∀ b o, H b = some o → over H l b = some o := fun b o e => by rw [old b (I.hok.lt e)]; exact e
  refine I.un ⟨fun b o q _ _ _ => k b o q, fun b o q _ _ _ => ⟨o.slots, k b o q⟩, fun b o q n _ => by rw [old b (Heap.lt_size q)]; exact n, fun b o q _ => ⟨o, k b o q⟩, fun b xs q => oldT b _ q, fun b o u q => oldT b _ q, fun b ps q => ⟨#[], by rw [oldT b _ q]; simp⟩⟩ fun b o e => ?_
  cases q : l.lookup b with
  | some u =>
    rw [over_new q] at e
    cases e
    exact (hl b o q).2
  | none =>
    rw [over_old q] at e
    exact (I.hok b o e).stay (fun c v _ r => k c v r) (fun c r => oldT c _ r) fun c xs r => oldT c _ r
end
theorem lookup_zip {os : List HO} : ∀ {Ts : List Addr}, Ts.Nodup → ∀ {os : List HO} {i : Nat} {T : Addr} {o : HO}, Ts[i]? = some T → os[i]? = some o → (Ts.zip os).lookup T = some o
  | [], _, _, _, _, _, h, _ => by simp at h
  | T0 :: Ts, nd, [], i, T, o, _, h => by simp at h
  | T0 :: Ts, nd, o0 :: os, 0, T, o, h1, h2 => by
    simp at h1 h2
    subst h1 h2
    simp
  | T0 :: Ts, nd, o0 :: os, i + 1, T, o, h1, h2 => by
    have nd2 := List.nodup_cons.mp nd
    have h1 : Ts[i]? = some T := by simpa using h1
    have h2 : os[i]? = some o := by simpa using h2
    have ne : T ≠ T0 := fun e => nd2.1 (by rw [← e]; exact List.mem_of_getElem? h1)
    show (match T == T0 with
      | true => some o0
      | false => (Ts.zip os).lookup T) = some o
    rw [beq_eq_false_iff_ne.mpr ne]
    exact lookup_zip (os := os) nd2.2 h1 h2
theorem lookup_back {b : Addr} {o : HO} : ∀ {Ts : List Addr} {os : List HO}, (Ts.zip os).lookup b = some o → ∃ i : Nat, Ts[i]? = some b ∧ os[i]? = some o
  | [], _, h => by simp at h
  | T0 :: Ts, [], h => by simp at h
  | T0 :: Ts, o0 :: os, h => by
    have h : (match b == T0 with
      | true => some o0
      | false => (Ts.zip os).lookup b) = some o := h
    by_cases e : b = T0
    · subst e
      simp at h
      subst h
      exact ⟨0, by simp, by simp⟩
    · rw [beq_eq_false_iff_ne.mpr e] at h
      obtain ⟨i, h1, h2⟩ := lookup_back (Ts := Ts) (os := os) h
      exact ⟨i + 1, by simpa using h1, by simpa using h2⟩
theorem refs_of {B : Addr} : ∀ {vs : List Value}, (∀ v ∈ vs, ∃ T : Addr, v = Value.ref T ∧ B ≤ T) → ∃ Ts : List Addr, vs = Ts.map Value.ref ∧ ∀ T ∈ Ts, B ≤ T
  | [], _ => ⟨[], rfl, nofun⟩
  | v :: vs, h => by
    obtain ⟨T, rfl, hT⟩ := h v List.mem_cons_self
    obtain ⟨Ts, rfl, hTs⟩ := refs_of (vs := vs) fun u hu => h u (List.mem_cons_of_mem _ hu)
    exact ⟨T :: Ts, rfl, fun U hU => (List.mem_cons.mp hU).elim (fun e => by rw [e]; exact hT) (hTs U)⟩
theorem vals_refs : ∀ {Ts : List Addr}, Vals (Ts.map V.ref) (Ts.map Value.ref)
  | [] => .nil
  | _ :: _ => .cons rfl vals_refs
def tZipL (K : PySem.W.Frag) (ta : TA) : TE := fun σ H Q => ta σ H fun vs H1 => ∃ a b xs ys, vs = [.ref a, .ref b] ∧ SqT K H1 a xs ∧ SqT K H1 b ys ∧ ∀ (p : Addr) (Ts : List Addr) (H2 : Hp), H1 p = none → Evl.Ex H1 H2 → H2 p = some (.lst (Ts.map V.ref)) →
  Ts.length = min xs.length ys.length → (∀ (i : Nat) (T : Addr), Ts[i]? = some T → ∃ x y, xs[i]? = some x ∧ ys[i]? = some y ∧ H2 T = some (.tup [x, y])) → Q (.ref p) H2
theorem pe_listZip {X : Cx} {e e2 : Expr} {ta : TA} {p p2 pos pos2 : Pos} (hc : X.calm = true) (hgl : Gl X "list") (hml : X.mg "list" = none) (hg : Gl X "zip") (hm : X.mg "zip" = none) (ha : PA X [e, e2] ta)
    (hs : starEach [e, e2] X.env = (false, eval e X.env) :: starEach [e2] X.env := by rfl) (hpl : (backTo pos2 (starEach [e2] X.env)).any (·.1) = false := by rfl)
    (na : starEach [Expr.Call (.Name "zip" p2) [e, e2] [] pos2] X.env = (false, eval (.Call (.Name "zip" p2) [e, e2] [] pos2) X.env) :: starEach [] X.env := by rfl) :
    PE X (.Call (.Name "list" p) [.Call (.Name "zip" p2) [e, e2] [] pos2] [] pos) (tZipL X.K ta) := by
  refine ⟨fun pins s σ H Q I h => ?_⟩
  refine Call_ (ld_blt I hgl hml boot_list (PyProof.Rows.callWith_type1 (args_cons ?_ na) na))
  refine Call_ (ld_blt I hg hm PyProof.Rows.boot_zip (PyProof.Rows.callWith_type1 (thn (ha.run pos2 pins s σ H _ I h) fun us s1 ⟨vs, H1, I1, r1, q1⟩ => ?_) hs hpl))
  obtain ⟨a, b, xs, ys, ex, hqx, hqy, q⟩ := q1
  subst ex
  obtain ⟨u1, u2, rfl, ra, rb⟩ := vals2 r1
  cases (show u1 = Value.ref a from ra)
  cases (show u2 = Value.ref b from rb)
  obtain ⟨its, rv, p1, z1⟩ := I1.tuple hqx
  obtain ⟨its2, rv2, p2, z2⟩ := I1.tuple hqy
  obtain ⟨o1, ho1, _⟩ := id p1
  obtain ⟨o2, ho2, _⟩ := id p2
  have D := PySem.W.ktu_apart s1.heap.objs.size a b (Heap.lt_size ho1) (Heap.lt_size ho2)
  refine RZ.call_zipT (show s1.heap.IsTuple a its.toArray from p1) (show s1.heap.IsTuple b its2.toArray from p2) fun h' hz hTI hTO h1 h2 hsz hk => ?_
  have I2 : Inv X pins σ H1 { s1 with heap := h' } := I1.kept (t' := s1.toks) hk
  refine args_nil ?_
  have Z : Zi h'.objs.size (s1.heap.objs.size + 4) (s1.heap.objs.size + 2) (s1.heap.objs.size + 3) s1.heap.objs.size (s1.heap.objs.size + 1) a b its.toArray its2.toArray #[] h' :=
    ⟨Nat.le_refl _, fun v hv => by simp at hv, by simp, .inl ⟨rfl, hz⟩, hTI, ⟨_, _, hTO⟩, h1, h2, (show s1.heap.IsTuple a its.toArray from p1).at fun o e => hk _ o e, (show s1.heap.IsTuple b its2.toArray from p2).at fun o e => hk _ o e, fun j v hj => by simp at hj⟩
  have l1 := rv.length
  have l2 := rv2.length
  refine call_list_zip (s := { s1 with heap := h' }) (I2.ok.hd hc) D (by simp only [List.size_toArray]; omega) Z hz fun h'' acc d => ?_
  obtain ⟨d1, ⟨d2, d3⟩, ⟨c, d4⟩, d5, d6⟩ := d
  obtain ⟨Ts, eT, bT⟩ := refs_of d2
  have ndT : Ts.Nodup := by
    rw [eT] at d3
    exact (List.pairwise_map.mp d3).imp fun h e => h (congrArg _ e)
  have sz1 : s1.heap.objs.size ≤ h'.objs.size := by rw [hsz]; exact Nat.le_add_right _ _
  have lT : Ts.length = min xs.length ys.length := by
    have e : acc.toList.length = Ts.length := by rw [eT, List.length_map]
    rw [Array.length_toList] at e
    rw [← e, d1, List.size_toArray, List.size_toArray, l1, l2]
  have at_ : ∀ (i : Nat) (T : Addr), Ts[i]? = some T → ∃ x y xu yu, xs[i]? = some x ∧ ys[i]? = some y ∧ RelV x xu ∧ RelV y yu ∧ PySem.IsPair h'' T xu yu := fun i T hi => by
    have hj : acc[i]? = some (Value.ref T) := by rw [← Array.getElem?_toList, eT, List.getElem?_map, hi]; rfl
    obtain ⟨T', xu, yu, e1, e2, e3, e4⟩ := d5 i _ hj
    cases e1
    have il : i < Ts.length := (List.getElem?_eq_some_iff.mp hi).1
    obtain ⟨xu2, f1, r1⟩ := rv.get (show xs[i]? = some xs[i] from List.getElem?_eq_getElem (by omega))
    obtain ⟨yu2, f2, r2⟩ := rv2.get (show ys[i]? = some ys[i] from List.getElem?_eq_getElem (by omega))
    have g1 : its[i]? = some xu := by simpa using e2
    have g2 : its2[i]? = some yu := by simpa using e3
    rw [g1] at f1
    rw [g2] at f2
    cases f1
    cases f2
    exact ⟨_, _, xu, yu, List.getElem?_eq_getElem (by omega), List.getElem?_eq_getElem (by omega), r1, r2, e4⟩
  have Tp : ∀ T ∈ Ts, T ≠ h'.objs.size := fun T hT e => by
    obtain ⟨i, hi, ei⟩ := List.getElem_of_mem hT
    obtain ⟨x, y, xu, yu, _, _, _, _, pr⟩ := at_ i T (by rw [List.getElem?_eq_getElem hi, ei])
    rw [e] at pr
    exact absurd (d4.symm.trans pr) (by simp)
  obtain ⟨os, hos⟩ : ∃ os : List HO, os = (xs.zip ys).map fun q => HO.tup [q.1, q.2] := ⟨_, rfl⟩
  have osAt : ∀ (i : Nat) (x y : V), xs[i]? = some x → ys[i]? = some y → os[i]? = some (.tup [x, y]) := fun i x y hx hy => by
    rw [hos, List.getElem?_map, show (xs.zip ys)[i]? = some (x, y) from List.getElem?_zip_eq_some.mpr ⟨hx, hy⟩]
    rfl
  obtain ⟨l, hl⟩ : ∃ l : List (Addr × HO), l = (h'.objs.size, HO.lst (Ts.map V.ref)) :: Ts.zip os := ⟨_, rfl⟩
  have lp : l.lookup h'.objs.size = some (.lst (Ts.map V.ref)) := by rw [hl]; simp
  have lT2 : ∀ (i : Nat) (T : Addr) (x y : V), Ts[i]? = some T → xs[i]? = some x → ys[i]? = some y → l.lookup T = some (.tup [x, y]) := fun i T x y hi hx hy => by
    have ne := Tp T (List.mem_of_getElem? hi)
    rw [hl]
    show (match T == h'.objs.size with
      | true => some (HO.lst (Ts.map V.ref))
      | false => (Ts.zip os).lookup T) = _
    rw [beq_eq_false_iff_ne.mpr ne]
    exact lookup_zip (os := []) ndT hi (osAt i x y hx hy)
  have back : ∀ (b : Addr) (o : HO), l.lookup b = some o → (b = h'.objs.size ∧ o = .lst (Ts.map V.ref)) ∨ ∃ (i : Nat) (x y : V), Ts[i]? = some b ∧ xs[i]? = some x ∧ ys[i]? = some y ∧ o = .tup [x, y] := fun b o h => by
    rw [hl] at h
    have h : (match b == h'.objs.size with
      | true => some (HO.lst (Ts.map V.ref))
      | false => (Ts.zip os).lookup b) = some o := h
    by_cases e : b = h'.objs.size
    · subst e
      simp at h
      exact .inl ⟨rfl, h.symm⟩
    · rw [beq_eq_false_iff_ne.mpr e] at h
      obtain ⟨i, h1, h2⟩ := lookup_back h
      obtain ⟨x, y, _, _, hx, hy, _⟩ := at_ i b h1
      rw [osAt i x y hx hy] at h2
      cases h2
      exact .inr ⟨i, x, y, h1, hx, hy, rfl⟩
  have keep : ∀ b u, s1.heap.get? b = some u → h''.get? b = some u := fun b u e => by
    have lt := Heap.lt_size e
    have nn : ∀ n, b ≠ s1.heap.objs.size + n := fun n q => by rw [q] at lt; exact absurd lt (Nat.not_lt_of_le (Nat.le_add_right _ n))
    exact d6 b u (fun q => by rw [q] at lt; exact absurd lt (Nat.not_lt_of_le sz1)) (nn 4) (nn 3) (nn 0) (nn 1) (hk b u e)
  have I3 : Inv X pins σ (over H1 l) { s1 with heap := h'', toks := s1.toks } := by
    refine inv_news I1 keep fun b o h => ?_
    rcases back b o h with ⟨rfl, rfl⟩ | ⟨i, x, y, h1, hx, hy, rfl⟩
    · refine ⟨sz1, ?_, acc.toList, c, ?_, ?_⟩
      · rw [List.length_map, lT]; omega
      · rw [eT]; exact vals_refs
      · rw [Array.toArray_toList]; exact d4
    · obtain ⟨x', y', xu, yu, hx', hy', rx, ry, pr⟩ := at_ i b h1
      rw [hx] at hx'
      rw [hy] at hy'
      cases hx'
      cases hy'
      exact ⟨Nat.le_trans sz1 (bT b (List.mem_of_getElem? h1)), by show 2 ≤ sizeLine; decide, [xu, yu], .cons rx (.cons ry .nil), _, pr, rfl, _, rfl⟩
  refine ⟨.ref h'.objs.size, over H1 l, I3, rfl, q _ Ts _ (I1.hok.fresh sz1) (fun b o e => ?_) (over_new lp) lT fun i T hi => ?_⟩
  · rw [over_old]
    · exact e
    · cases r : l.lookup b with
      | none => rfl
      | some u =>
        have lt := I1.hok.lt e
        rcases back b u r with ⟨rfl, _⟩ | ⟨i, x, y, h1, _⟩
        · exact absurd (Nat.lt_of_lt_of_le lt sz1) (Nat.lt_irrefl _)
        · exact absurd (Nat.lt_of_lt_of_le lt (Nat.le_trans sz1 (bT b (List.mem_of_getElem? h1)))) (Nat.lt_irrefl _)
  · obtain ⟨x, y, _, _, hx, hy, _⟩ := at_ i T hi
    exact ⟨x, y, hx, hy, over_new (lT2 i T x y hi hx hy)⟩
end LL
set_option maxHeartbeats 4000000
/-! t[::-1] of a tuple; lists that a tuple is put behind; the end of a list cut off; list(zip(..)) of tuples. -/
namespace LL
open PySem PySem.Spec PyProof.Rows L2 PySem.Calls
section
variable {prog : Program} {w : World} {A : Around} {E : Value → Shared → Prop} {s : Shared}
theorem sliceApplied_rev {sl : Addr} {vl vu vs : Value} {n : Nat} {Q : Int × Int × Nat → Shared → Prop} (hs : s.heap.IsSliceOf sl vl vu vs) (pl : IsPart vl none) (pu : IsPart vu none) (ps : IsPart vs (some (-1)))
    (h : Q ((n : Int) - 1, -1, n) s) : wpAny (model prog w) A (Builtin.Slice.sliceApplied (.ref sl) (pure (n : Int))) Q E s := by
  obtain ⟨os, hos, hcs, hds⟩ := id hs
  unfold Builtin.Slice.sliceApplied Builtin.Slice.sliceFields
  refine wpAny_bind (wpAny_bind (wpAny_field hos hds (x := vl) rfl (wpAny_bind (wpAny_field hos hds (x := vu) rfl (wpAny_bind (wpAny_field hos hds (x := vs) rfl (wpAny_pure ?_)))))))
  refine wpAny_bind (HT.slicePart_ ps ?_)
  show wpAny _ _ (if ((-1 : Int) == 0) = true then _ else _) _ _ s
  rw [if_neg (by decide)]
  refine wpAny_bind (HT.slicePart_ pl (wpAny_bind (HT.slicePart_ pu (wpAny_bind (wpAny_pure ?_)))))
  show wpAny _ _ (match Builtin.Slice.sliceAdjust none none (-1) (n : Int) with | (lo, hi) => pure (lo, (-1 : Int), Builtin.Slice.slicePlaces lo hi (-1))) _ _ s
  have e : Builtin.Slice.sliceAdjust none none (-1) (n : Int) = ((n : Int) - 1, -1) := rfl
  rw [e]
  have e2 : Builtin.Slice.slicePlaces ((n : Int) - 1) (-1) (-1) = n := by
    unfold Builtin.Slice.slicePlaces
    rw [if_neg (by decide)]
    by_cases hn : n = 0
    · subst hn
      rw [if_neg (by decide)]
      rfl
    · rw [if_pos (by omega), show (- -1 : Int) = 1 by decide, Int.ediv_one]
      omega
  show wpAny _ _ (pure ((n : Int) - 1, (-1 : Int), Builtin.Slice.slicePlaces ((n : Int) - 1) (-1) (-1))) _ _ s
  rw [e2]
  exact wpAny_pure h
theorem pick_rev (xs : Array Value) : ((List.range xs.size).filterMap fun (m : Nat) => xs[((xs.size : Int) - 1 + (m : Int) * (-1)).toNat]?).toArray = xs.toList.reverse.toArray := by
  congr 1
  have e : ((List.range xs.size).filterMap fun (m : Nat) => xs[((xs.size : Int) - 1 + (m : Int) * (-1)).toNat]?) = ((List.range xs.size).map fun k => xs.size - 1 - k).filterMap (xs[·]?) := by
    rw [List.filterMap_map]
    have go : ∀ l : List Nat, (∀ m ∈ l, m < xs.size) → l.filterMap (fun (m : Nat) => xs[((xs.size : Int) - 1 + (m : Int) * (-1)).toNat]?) = l.filterMap ((fun x => xs[x]?) ∘ fun k => xs.size - 1 - k) := by
      intro l
      induction l with
      | nil => intro _; rfl
      | cons m l ih =>
        intro hm
        have h1 := hm m List.mem_cons_self
        have e : ((xs.size : Int) - 1 + (m : Int) * (-1)).toNat = xs.size - 1 - m := by omega
        have e2 : xs[((xs.size : Int) - 1 + (m : Int) * (-1)).toNat]? = ((fun x => xs[x]?) ∘ fun k => xs.size - 1 - k) m := by rw [e] <;> rfl
        rw [List.filterMap_cons, List.filterMap_cons, e2, ih fun q hq => hm q (List.mem_cons_of_mem _ hq)]
    exact go _ fun m hm => List.mem_range.mp hm
  rw [e, PySem.W.krv_range, List.filterMap_reverse, PySem.W.krv_all]
theorem getItem_tuple_rev {t sl : Addr} {items : Array Value} {vl vu vs : Value} {Q : Value → Shared → Prop} (ht : IsTup s.heap t items) (hs : s.heap.IsSliceOf sl vl vu vs) (pl : IsPart vl none) (pu : IsPart vu none) (ps : IsPart vs (some (-1)))
    (h : Q (.ref s.heap.objs.size) { s with heap := s.heap.push { cls := .type "tuple", data := .seq items.toList.reverse.toArray } }) (hsz : items.size ≤ sizeLine) : wpAny (model prog w) A (getItem (.ref t) (.ref sl)) Q E s := by
  have htake : sizeOk (.seq items.toList.reverse.toArray) := by
    show items.toList.reverse.toArray.size ≤ sizeLine
    rw [List.size_toArray, List.length_reverse, Array.length_toList]
    exact hsz
  obtain ⟨os, hos, hcs, hds⟩ := id hs
  have hTs : s.TypeIs (.ref sl) "slice" := ⟨os, hos, hcs⟩
  unfold getItem
  try with_reducible refine wpAny_holding ?_
  first | refine wpAny_bind (wpAny_pure ?_) | skip
  refine wpAny_bind (wpAny_sequenceKey ht.typeIs (by decide) ?_)
  refine wpAny_bind (wpAny_callSpecial?_slot (name := Str.ofString "__getitem__") ht.typeIs PyProof.Rows.slot_tuple_getitem
    (wpAny_call_entry PyProof.Rows.slot_tuple_getitem ht.typeIs entry_tuple_getitem ?_ (args_tuple_getitem _ _)))
  show wpAny _ _ (Builtin.Tuple.tupleItemsOf (.ref t) >>= _) _ _ s
  refine wpAny_bind (tupleItemsOf_ ht ?_)
  refine wpAny_bind (wpAny_typeOf hTs ?_)
  rw [if_pos (by decide)]
  refine wpAny_bind (sliceApplied_rev hs pl pu ps ?_)
  have hno : ¬ ((((items.size : Int) - 1) == 0 && (-1 : Int) == 1 && items.size == items.size) = true) := by
    intro q
    rw [Bool.and_eq_true, Bool.and_eq_true] at q
    exact absurd q.1.2 (by decide)
  show wpAny _ _ (if (((items.size : Int) - 1) == 0 && (-1 : Int) == 1 && items.size == items.size) = true then _ else _) _ _ s
  rw [if_neg hno, pick_rev]
  first
    | exact wpAny_bind (m := Builtin.Tuple.tupleExact _) (wpAny_newObj_type (wpAny_pure ⟨_, rfl, wpAny_pure h⟩) htake)
    | exact wpAny_bind (m := Builtin.Tuple.tupleExact _) (wpAny_newObj_type (wpAny_bind (wpAny_pure (wpAny_pure ⟨_, rfl, wpAny_pure h⟩))) htake)
    | exact wpAny_bind (wpAny_bind (m := Builtin.Tuple.tupleExact _) (wpAny_newObj_type (wpAny_pure (wpAny_pure ⟨_, rfl, wpAny_pure h⟩)) htake))
    | exact wpAny_bind (wpAny_bind (m := Builtin.Tuple.tupleExact _) (wpAny_newObj_type (wpAny_pure ⟨_, rfl, wpAny_pure h⟩) htake))
end
def tRevT (K : PySem.W.Frag) (te : TE) : TE := fun σ H Q => te σ H fun x H1 => ∃ a xs, x = .ref a ∧ SqT K H1 a xs ∧ ∀ p, H1 p = none → Q (.ref p) (upd H1 p (.tup xs.reverse))
theorem pe_revT {X : Cx} {e : Expr} {te : TE} {k : Nat} {p1 p2 p3 pos : Pos} (he : PE X e te) : PE X (.Subscript e (.Slice none none (some (.UnaryOp .USub (.Constant (.int 1) k p1) p2)) p3) pos) (tRevT X.K te) := by
  refine ⟨fun pins s σ H Q I h => ?_⟩
  refine Subscript_ (thn (he.run pins s σ H _ I h) fun v s1 ⟨x, H1, I1, r1, q1⟩ => ?_)
  obtain ⟨a, xs, ex, hx, q⟩ := q1
  subst ex
  cases r1
  have hst : PO X (some (.UnaryOp .USub (.Constant (.int 1) k p1) p2)) (tPart (tUn (rU fun i => .int (-i)) (tC (.int 1)))) := po_some (pe_un un_neg pe_int)
  refine wpAny_Slice (thn (po_none.run pins s1 σ H1 (fun o H2 => o = none ∧ H2 = H1) I1 ⟨rfl, rfl⟩) fun vl s2 ⟨l, H2, I2, pl, el, e2⟩ => ?_)
  subst el e2
  refine thn (po_none.run pins s2 σ H2 (fun o H3 => o = none ∧ H3 = H2) I2 ⟨rfl, rfl⟩) fun vu s3 ⟨u, H3, I3, pu, eu, e3⟩ => ?_
  subst eu e3
  refine thn (hst.run pins s3 σ H3 (fun o H4 => o = some (-1) ∧ H4 = H3) I3 ⟨1, rfl, -1, rfl, rfl, rfl⟩) fun vs s4 ⟨o, H4, I4, ps, eo, e4⟩ => ?_
  subst eo e4
  have I5 : Inv X pins σ H4 { s4 with heap := s4.heap.push { cls := .type "slice", data := .fields #[vl, vu, vs] } } := I4.kept (t' := s4.toks) fun b ob q => Heap.get?_push_of_some _ q
  obtain ⟨its, r, ht, hz⟩ := I5.tuple hx
  have hlen := r.length
  show wpAny (model X.prog X.w) X.A (subscriptTail e (.Slice none none (some (.UnaryOp .USub (.Constant (.int 1) k p1) p2)) p3) (.ref a) (.ref s4.heap.objs.size)) (EP X pins σ Q) X.xe { s4 with heap := s4.heap.push { cls := .type "slice", data := .fields #[vl, vu, vs] } }
  refine tail_any (ops := [.ref a, .ref s4.heap.objs.size]) ht.typeIs (PyProof.Rows.slot_tuple_getitem.lookup) ?_ (by with_unfolding_all rfl)
  refine getItem_tuple_rev ht (Heap.IsSliceOf.new _ vl vu vs) pl pu ps ?_ (by rw [List.size_toArray]; omega)
  refine ⟨.ref _, _, I5.laid (t' := s4.toks) (o := .tup xs.reverse) (fun b ob q => Heap.get?_push_of_some _ q) (Nat.le_refl _) ?_, rfl, q _ (I5.hok.fresh (Nat.le_refl _))⟩
  exact ⟨by rw [List.length_reverse]; exact hz, _, r.reverse, IsTup.new _ _⟩
end LL
set_option maxHeartbeats 4000000
namespace LL
open PySem PySem.Spec PyProof.Rows L2 PySem.Calls
section
open PySem.AutoSeq1
theorem list_extend_tup (l : Addr) (items : Array Value) (n : Nat) (b : Addr) (items2 : Array Value) (n2 : Nat) (dd : Option Addr) (sl : Array (Option Value)) (hs0 : ¬(!items.isEmpty && Builtin.List.listTooLong (items.size + items2.size)) = true) (hs1 : items.size ≤ sizeLine) (hs2 : items.size + items2.size ≤ sizeLine + 1) :
    Meets (Builtin.«list.extend» ⟨[.ref l, .ref b], []⟩) (fun _ R s => s.heap.get? l = some { cls := .type "list", dict := none, data := .seq items n, slots := #[] } ∧ s.heap.get? b = some { cls := .type "tuple", dict := dd, data := .seq items2 n2, slots := sl } ∧ R (.ok (.ret Value.none)) { s with heap := s.heap.update l (Obj.mapSeq fun x => x ++ items2), toks := s.toks }) :=
  .of_wp fun prog w A R s h => by
    obtain ⟨hp, g, d, tk, os⟩ := s; obtain ⟨hl, hb, h⟩ := h; have f1 := idx_int; have f2 := AutoSeq1.sub_tuple_tuple; have f3 := AutoSeq1.sub_list_list; have f4 := AutoSeq1.sub_tuple_list; have f5 := AutoSeq1.sub_list_tuple;
    have hz' : (items ++ items2).size ≤ sizeLine + 1 := by rw [Array.size_append]; exact hs2
    wp_walk using (wpAny_updateSeq hl rfl (hz := hs1) (_hz' := hz')), wpAny_loadPart' hl, wpAny_loadPart' hb; exact ⟨_, rfl, h⟩
end
/-- xs.extend(t), t a tuple -/
def rExtendT (K : PySem.W.Frag) : V → List V → Hp → VK → Prop := fun x vs H Q => ∃ l b xs zs, x = .ref l ∧ vs = [.ref b] ∧ H l = some (.lst xs) ∧ SqT K H b zs ∧ xs.length + zs.length ≤ sizeLine ∧ Q .non (upd H l (.lst (xs ++ zs)))
theorem mt_extendT {X : Cx} : MtM X "list.extend" (rExtendT X.K) := by
  intro pins s σ H x vs v us Q I rx rv h
  obtain ⟨l, b, xs, zs, rfl, rfl, hH, hB, hz, q⟩ := h
  cases rx
  obtain ⟨u, rfl, ru⟩ := rv.one
  cases ru
  obtain ⟨z, its, n, r, hl, e⟩ := I.lstM hH
  obtain ⟨its2, r2, ht, z2⟩ := I.tuple hB
  have hl2 := r2.length
  obtain ⟨⟨cls2, dd2, data2, sl2⟩, ho2, hc2, n2, hd2⟩ := id ht
  simp only at hc2 hd2
  subst hc2 hd2
  have hsz : its.toArray.size + its2.toArray.size ≤ sizeLine := by rw [List.size_toArray, List.size_toArray]; omega
  have hlong : ¬ (!its.toArray.isEmpty && Builtin.List.listTooLong (its.toArray.size + its2.toArray.size)) = true := by
    rw [notLongL hsz, Bool.and_false]
    exact Bool.false_ne_true
  refine call_meets F.slot_list_extend ⟨_, e, rfl⟩ F.entry_list_extend (F.args_list_extend_2 _ _)
    (list_extend_tup l its.toArray n b its2.toArray n2 dd2 sl2 hlong (by rw [List.size_toArray]; omega) (by omega)) ⟨e, ho2, ?_⟩
  refine ⟨.non, _, I.lset (its' := its ++ its2) hH e (by simp) (r.append r2) ?_, rfl, q⟩
  rw [List.length_append]
  omega
end LL
set_option maxHeartbeats 4000000
/-! del xs[a:] of a list -/
namespace LL
open PySem PySem.Spec PyProof.Rows L2 PySem.Calls
section
variable {prog : Program} {w : World} {A : Around} {E : Value → Shared → Prop} {s : Shared}
theorem bounds_from {a n : Nat} (ha : a ≤ n) : sliceBounds (some (a : Int)) none none n = ((a : Int), (n : Int), 1) := by
  simp only [sliceBounds, Option.getD_none]
  have h1 : ¬ ((a : Int) < 0) := by omega
  simp only [h1, if_false, show (1 : Int) > 0 by decide, if_true]
  congr 1
  omega
theorem keep_head (xs : List Value) (a : Nat) (ha : a ≤ xs.length) (P : Nat → Bool) (hP : ∀ k, k < xs.length → (P k = true ↔ a ≤ k)) : ((xs.zipIdx).filterMap fun q : Value × Nat => if P q.2 = true then none else some q.1) = xs.take a := by
  have go : ∀ (ys : List Value) (j : Nat), (∀ k, j ≤ k → k < j + ys.length → (P k = true ↔ a ≤ k)) → ((ys.zipIdx j).filterMap fun q : Value × Nat => if P q.2 = true then none else some q.1) = ys.take (a - j) := by
    intro ys
    induction ys with
    | nil => intro j _; simp
    | cons y ys ih =>
      intro j h
      rw [List.zipIdx_cons, List.filterMap_cons]
      have h0 := h j (Nat.le_refl _) (by simp)
      have hr := ih (j + 1) fun k h1 h2 => h k (by omega) (by rw [List.length_cons]; omega)
      by_cases hj : a ≤ j
      · dsimp only
        rw [if_pos (h0.mpr hj), hr]
        have e1 : a - j = 0 := by omega
        have e2 : a - (j + 1) = 0 := by omega
        rw [e1, e2, List.take_zero, List.take_zero]
      · dsimp only
        rw [if_neg (fun q => hj (h0.mp q)), hr]
        have e1 : a - j = (a - (j + 1)) + 1 := by omega
        rw [e1, List.take_succ_cons]
  have := go xs 0 fun k _ h2 => hP k (by omega)
  simpa using this
def sel1 (a n : Int) (k : Nat) : Bool := if (1 : Int) > 0 then a ≤ k && k < n && (k - a) % 1 == 0 else n < k && k ≤ a && (a - k) % (-1) == 0
set_option maxRecDepth 100000 in
theorem delItem_slice {l sl : Addr} {items : Array Value} {n : Nat} {vl vu : Value} {a : Nat} {Q : Unit → Shared → Prop} (e : s.heap.get? l = some { cls := .type "list", data := .seq items n }) (hs : s.heap.IsSliceOf sl vl vu .none) (pl : IsPart vl (some (a : Int))) (pu : IsPart vu none)
    (ha : a ≤ items.size) (hsz : items.size ≤ sizeLine) (h : ∀ f : Array Value → Array Value, f items = (items.toList.take a).toArray → Q () { s with heap := s.heap.update l (Obj.mapSeq f) }) : wpAny (model prog w) A (delItem (.ref l) (.ref sl)) Q E s := by
  have hl : s.heap.IsList l items := PySem.IsL.isList e
  obtain ⟨os, hos, hcs, hds⟩ := id hs
  have hTs : s.TypeIs (.ref sl) "slice" := ⟨os, hos, hcs⟩
  have hstep : ¬ ((rawPart none == rawInt 0) = true) := Bool.false_ne_true
  refine wpAny_delItem_slot hl.typeIs (by decide) F.slot_list_delitem (wpAny_call_entry F.slot_list_delitem hl.typeIs F.entry_list_delitem ?_ (F.args_list_delitem_2 _ _))
  show wpAny _ _ (Builtin.List.listSubscript? (.ref sl) >>= _) _ _ s
  refine wpAny_bind ?_
  unfold Builtin.List.listSubscript?
  refine wpAny_bind (wpAny_specialOf hTs slice_no_index ?_)
  simp only [Option.isNone_none, if_true]
  refine wpAny_pure ?_
  show wpAny _ _ (typeOf (.ref sl) >>= _) _ _ s
  refine wpAny_bind (wpAny_typeOf hTs ?_)
  first
    | rw [if_neg (by decide)]
    | refine PySem.W.KFB.if_not (by decide) ?_
  first | refine wpAny_bind (wpAny_pure ?_) | skip
  rw [listSliceParts_eq]
  refine wpAny_bind (wpAny_bind (wpAny_field hos hds (x := .none) rfl (wpAny_bind (wpAny_listPart .none ?_))))
  rw [if_neg hstep]
  refine wpAny_bind (wpAny_field hos hds (x := vl) rfl (wpAny_bind (wpAny_listPart pl ?_)))
  refine wpAny_bind (wpAny_field hos hds (x := vu) rfl (wpAny_bind (wpAny_listPart pu (wpAny_pure ?_))))
  dsimp only
  unfold Builtin.List.listItems
  refine wpAny_bind (wpAny_bind (wpAny_seqItems e rfl (wpAny_pure ?_)))
  refine wpAny_bind (wpAny_of_eq ((sliceIndices_raw (some (a : Int)) none none items.size (by simp)).trans (congrArg (pure : Int × Int × Int → Sem (Int × Int × Int)) (bounds_from ha))) ?_)
  refine wpAny_bind (wpAny_rule ?_)
  have step : ∀ (f : Array Value → Array Value) (gone : List Value), f items = (items.toList.take a).toArray →
      wpAny (model prog w) A.in1 (do Builtin.List.listUpdate (.ref l) f; letGo gone; ret .none) (fun fin s' => ∃ v, fin = Fin.done (Flow.ret v) ∧ Q () s') E s := by
    intro f gone hf
    have hz' : (f items).size ≤ sizeLine + 1 := by
      rw [hf, List.size_toArray, List.length_take, Array.length_toList]
      omega
    show wpAny _ _ (updateSeq l f >>= _) _ _ s
    refine wpAny_bind (wpAny_updateSeq (hz := hsz) (_hz' := hz') e rfl ?_)
    refine wpAny_bind (wpAny_letGo ?_)
    exact wpAny_pure ⟨.none, rfl, h f hf⟩
  refine step _ _ ?_
  have q := keep_head items.toList a (by rw [Array.length_toList]; exact ha) (sel1 (a : Int) (items.size : Int)) (fun k hk => by
    unfold sel1
    rw [Array.length_toList] at hk
    rw [if_pos (by decide)]
    simp
    omega)
  exact congrArg List.toArray q
end
section
variable {X : Cx}
theorem del_from {pins : List (Addr × Obj)} {s : Shared} {σ : L2.St} {H : Hp} {l sl : Addr} {xs : List V} {a : Int} {vl vu : Value} {Q : Unit → Shared → Prop} (I : Inv X pins σ H s) (hH : H l = some (.lst xs)) (hs : s.heap.IsSliceOf sl vl vu .none) (pl : IsPart vl (some a)) (pu : IsPart vu none)
    (h0 : 0 ≤ a) (ha : a ≤ xs.length) (h : ∀ s', Inv X pins σ (upd H l (.lst (xs.take a.toNat))) s' → Q () s') : wpAny (model X.prog X.w) X.A (delItem (.ref l) (.ref sl)) Q X.xe s := by
  obtain ⟨z, its, n, r, hl, e⟩ := I.lstM hH
  obtain ⟨k, rfl⟩ := Int.eq_ofNat_of_zero_le h0
  refine delItem_slice (a := k) e hs pl pu (by rw [List.size_toArray]; omega) (by rw [List.size_toArray]; omega) fun f hf => h _ ?_
  refine I.lset (its' := its.take k) (t' := s.toks) hH e ?_ (r.take k) ?_
  · simpa using hf
  · rw [List.length_take]
    omega
/-- del xs[a:] -/
def tDelF (to : TE) (tl : TO) : TS := fun D σ H => to σ H fun x H1 => tl σ H1 fun o H2 => ∃ (l : Addr) (xs : List V) (i : Int), x = .ref l ∧ o = some i ∧ H2 l = some (.lst xs) ∧ 0 ≤ i ∧ i ≤ xs.length ∧ D.nx σ (upd H2 l (.lst (xs.take i.toNat)))
theorem ps_delF {o : Expr} {lo : Option Expr} {to : TE} {tl : TO} {p3 tpos pos : Pos} (ho : PE X o to) (hi : PO X lo tl) : PS X (.Delete [.Subscript o (.Slice lo none none p3) tpos] pos) (tDelF to tl) := by
  refine ⟨fun pins s σ H D I h => ?_⟩
  refine wpAny_Delete (wpAny_deleteEach_cons (wpAny_delete_Subscript (thn (ho.run pins s σ H _ I h) fun u s1 ⟨x, H1, I1, rx, q1⟩ => ?_)))
  refine wpAny_Slice (thn (hi.run pins s1 σ H1 _ I1 q1) fun vl s2 ⟨o, H2, I2, pl, l, xs, k, ex, eo, hH, h1, h2, q2⟩ => ?_)
  subst ex eo
  cases (show u = Value.ref l from rx)
  refine thn (po_none.run pins s2 σ H2 (fun o H3 => o = none ∧ H3 = H2) I2 ⟨rfl, rfl⟩) fun vu s3 ⟨o3, H3, I3, pu, eu, e3⟩ => ?_
  subst eu e3
  refine thn (po_none.run pins s3 σ H3 (fun o H4 => o = none ∧ H4 = H3) I3 ⟨rfl, rfl⟩) fun vs s4 ⟨o4, H4, I4, ps, eo4, e4⟩ => ?_
  subst eo4 e4
  cases ps
  have I5 : Inv X pins σ H4 { s4 with heap := s4.heap.push { cls := .type "slice", data := .fields #[vl, vu, .none] } } := I4.kept (t' := s4.toks) fun b ob q => Heap.get?_push_of_some _ q
  exact del_from I5 hH (Heap.IsSliceOf.new _ vl vu .none) pl pu h1 h2 fun s5 I6 => wpAny_deleteEach_nil ⟨σ, _, I6, q2⟩
end
end LL
set_option maxHeartbeats 4000000
/-! Nested data over the abstract heap, with dicts, apart from one address l (the hand); its repr. -/
namespace LL
open PySem PySem.Spec PyProof.Rows L2
def kD : Key → PyData
  | .inl i => .int i
  | .inr x => .str x
mutual
inductive Dz (l : Addr) (H : Hp) : V → PyData → Prop
  | non : Dz l H .non .none
  | bl (b : Bool) : Dz l H (.bl b) (.bool b)
  | int (i : Int) : Dz l H (.int i) (.int i)
  | str (x : Str) : Dz l H (.str x) (.str x)
  | lst {a : Addr} {xs : List V} {ds : List PyData} (ne : a ≠ l) (h : H a = some (.lst xs)) (hs : Dzs l H xs ds) : Dz l H (.ref a) (.list ds)
  | tup {a : Addr} {xs : List V} {ds : List PyData} (ne : a ≠ l) (h : H a = some (.tup xs)) (hs : Dzs l H xs ds) : Dz l H (.ref a) (.tuple ds)
  | dic {a : Addr} {kvs : List (Key × V)} {ds : List PyData} (ne : a ≠ l) (h : H a = some (.dK kvs)) (hs : Dzs l H (kvs.map (·.2)) ds) : Dz l H (.ref a) (.dict ((kvs.map fun p => kD p.1).zip ds))
  | dit {a : Addr} {kvs : List (List Key × V)} {ds : List PyData} (ne : a ≠ l) (h : H a = some (.dT kvs)) (hs : Dzs l H (kvs.map (·.2)) ds) : Dz l H (.ref a) (.dict ((kvs.map fun p => PyData.tuple (p.1.map kD)).zip ds))
inductive Dzs (l : Addr) (H : Hp) : List V → List PyData → Prop
  | nil : Dzs l H [] []
  | cons {v : V} {vs : List V} {d : PyData} {ds : List PyData} (h : Dz l H v d) (hs : Dzs l H vs ds) : Dzs l H (v :: vs) (d :: ds)
end
/-- what was tracked stands, but at l -/
def Exl (l : Addr) (H H' : Hp) : Prop := ∀ a o, a ≠ l → H a = some o → H' a = some o
theorem Exl.refl (l : Addr) (H : Hp) : Exl l H H := fun _ _ _ h => h
theorem Exl.trans {l : Addr} {H H1 H2 : Hp} (a : Exl l H H1) (b : Exl l H1 H2) : Exl l H H2 := fun x o n h => b x o n (a x o n h)
theorem Exl.of {l : Addr} {H H1 : Hp} (a : Evl.Ex H H1) : Exl l H H1 := fun x o _ h => a x o h
theorem Exl.upd {l : Addr} {H : Hp} {o : HO} : Exl l H (upd H l o) := fun x u n h => by rw [upd_ne n]; exact h
mutual
theorem Dz.mono {l : Addr} {H H' : Hp} (e : Exl l H H') : ∀ {v : V} {d : PyData}, Dz l H v d → Dz l H' v d
  | _, _, .non => .non
  | _, _, .bl b => .bl b
  | _, _, .int i => .int i
  | _, _, .str x => .str x
  | _, _, .lst n h hs => .lst n (e _ _ n h) (Dzs.mono e hs)
  | _, _, .tup n h hs => .tup n (e _ _ n h) (Dzs.mono e hs)
  | _, _, .dic n h hs => .dic n (e _ _ n h) (Dzs.mono e hs)
  | _, _, .dit n h hs => .dit n (e _ _ n h) (Dzs.mono e hs)
theorem Dzs.mono {l : Addr} {H H' : Hp} (e : Exl l H H') : ∀ {vs : List V} {ds : List PyData}, Dzs l H vs ds → Dzs l H' vs ds
  | _, _, .nil => .nil
  | _, _, .cons h hs => .cons (Dz.mono e h) (Dzs.mono e hs)
end
theorem Dzs.length {l : Addr} {H : Hp} : ∀ {vs : List V} {ds : List PyData}, Dzs l H vs ds → vs.length = ds.length
  | _, _, .nil => rfl
  | _, _, .cons _ hs => congrArg (· + 1) (Dzs.length hs)
/-- the table of modules is a dict that the written part holds -/
def Sys (K : PySem.W.Frag) : Prop := ∃ o, K.lookup sysModules = some o ∧ o.cls = .type "dict"
section
variable {X : Cx} {pins : List (Addr × Obj)} {σ : L2.St} {H : Hp} {s : Shared}
theorem Sys.ne (y : Sys X.K) (I : Inv X pins σ H s) {a : Addr} {o : Obj} {c : String} (e : s.heap.get? a = some o) (hc : o.cls = .type c) (n : c ≠ "dict") : a ≠ sysModules := fun z => by
  obtain ⟨q, e2, c2⟩ := y
  have e3 := I.kIn _ _ e2
  rw [z, e3] at e
  have z2 := Option.some.inj e
  subst z2
  rw [c2] at hc
  exact n (Value.type.inj hc).symm
theorem reads_key {h : Heap} {k : Key} {u : Value} (hk : keyIs k u = true) : Reads h u (kD k) [] := by
  rcases keyIs_shape hk with ⟨i, t, rfl, rfl⟩ | ⟨x, t, rfl, rfl⟩
  · exact .int i t
  · exact .str x t
theorem reads_items {h : Heap} : ∀ {ks : List Key} {us : List Value}, Vals (ks.map kV) us → ReadsAll h us (ks.map kD) []
  | [], us, r => by
    rw [List.map_nil] at r
    cases r
    exact .nil
  | k :: ks, us, r => by
    rw [List.map_cons] at r
    cases r with
    | cons a b =>
      rename_i u us'
      have q : Reads h u (kD k) [] := by
        cases k with
        | inl i => obtain ⟨t, e⟩ := a; subst e; exact .int i t
        | inr x => obtain ⟨t, e⟩ := a; subst e; exact .str x t
      exact .cons q (reads_items b)
theorem reads_pairs {prog : Program} {w : World} (h : Heap) : ∀ {es : List DictEntry} {vs : List (Key × Value)}, Pairs (mixKind prog w) es vs → ∀ {kvs : List (Key × V)}, KV kvs vs →
    ReadsAll h (es.map (·.key)) (kvs.map fun p => kD p.1) [] ∧ Vals (kvs.map (·.2)) (es.map (·.val))
  | _, _, .nil, kvs, r => by
    cases r
    exact ⟨.nil, .nil⟩
  | _, _, .cons hk hv t, kvs, r => by
    cases r with
    | @cons p q ps qs a b =>
      obtain ⟨h1, h2⟩ := reads_pairs h t b
      obtain ⟨a1, a2⟩ := a
      refine ⟨.cons (as := []) (bs := []) (by show Reads h _ (kD p.1) []; rw [a1]; exact reads_key hk) h1, .cons (by dsimp only; rw [hv]; exact a2) h2⟩
theorem reads_tups (I : Inv X pins σ H s) : ∀ {kvs : List (List Key × V)} {xs : List (List Key × Addr × Value)}, KT H kvs xs →
    ReadsAll s.heap (xs.map fun x => Value.ref x.2.1) (kvs.map fun p => PyData.tuple (p.1.map kD)) [] ∧ Vals (kvs.map (·.2)) (xs.map fun x => x.2.2)
  | _, _, .nil => ⟨.nil, .nil⟩
  | _, _, .cons (a := p) (b := q) a b => by
    obtain ⟨h1, h2⟩ := reads_tups I b
    obtain ⟨_, its, rv, o, e1, e2, n, e3⟩ := (show ObjOk X.prog X.w H s.heap q.2.1 (.tup (p.1.map kV)) from I.hok _ _ a.2.1)
    exact ⟨.cons (as := []) (bs := []) (.tuple e1 e2 e3 (by simpa using reads_items rv)) h1, .cons a.2.2 h2⟩
theorem zip_fst {α β : Type} : ∀ {as : List α} {bs : List β}, as.length = bs.length → (as.zip bs).map (·.1) = as
  | [], [], _ => rfl
  | a :: as, b :: bs, h => congrArg (a :: ·) (zip_fst (Nat.succ.inj h))
theorem zip_snd {α β : Type} : ∀ {as : List α} {bs : List β}, as.length = bs.length → (as.zip bs).map (·.2) = bs
  | [], [], _ => rfl
  | a :: as, b :: bs, h => congrArg (b :: ·) (zip_snd (Nat.succ.inj h))
mutual
theorem Dz.reads (y : Sys X.K) (I : Inv X pins σ H s) {l : Addr} : ∀ {v : V} {d : PyData} {u : Value}, Dz l H v d → RelV v u → ∃ as, Reads s.heap u d as ∧ sysModules ∉ as
  | _, _, _, .non, r => by cases (show _ = Value.none from r); exact ⟨[], .none, by simp⟩
  | _, _, _, .bl b, r => by cases (show _ = Value.bool b from r); exact ⟨[], .bool b, by simp⟩
  | _, _, _, .int i, r => by obtain ⟨t, e⟩ := r; subst e; exact ⟨[], .int i t, by simp⟩
  | _, _, _, .str x, r => by obtain ⟨t, e⟩ := r; subst e; exact ⟨[], .str x t, by simp⟩
  | _, _, _, .lst (a := a) (xs := xs) n h hs, r => by
    cases (show _ = Value.ref a from r)
    obtain ⟨_, its, m, rv, e⟩ := (show ObjOk X.prog X.w H s.heap a (.lst xs) from I.hok _ _ h)
    obtain ⟨as, q, z⟩ := Dzs.reads y I hs rv
    refine ⟨a :: as, .list e rfl rfl (by simpa using q), fun hm => ?_⟩
    rcases List.mem_cons.mp hm with e2 | e2
    · exact y.ne I e rfl (by decide) e2.symm
    · exact z e2
  | _, _, _, .tup (a := a) (xs := xs) n h hs, r => by
    cases (show _ = Value.ref a from r)
    obtain ⟨_, its, rv, o, e1, e2, m, e3⟩ := (show ObjOk X.prog X.w H s.heap a (.tup xs) from I.hok _ _ h)
    obtain ⟨as, q, z⟩ := Dzs.reads y I hs rv
    exact ⟨as, .tuple e1 e2 e3 (by simpa using q), z⟩
  | _, _, _, .dic (a := a) (kvs := kvs) (ds := ds) n h hs, r => by
    cases (show _ = Value.ref a from r)
    obtain ⟨_, hS, vs, kv, o, es, ep, e1, e2, e3, _, e5, _⟩ := (show ObjOk X.prog X.w H s.heap a (.dK kvs) from I.hok _ _ h)
    obtain ⟨q1, rv⟩ := reads_pairs s.heap e5 kv
    obtain ⟨as, q, z⟩ := Dzs.reads y I hs rv
    have hl : (kvs.map fun p => kD p.1).length = ds.length := by rw [List.length_map, ← hs.length, List.length_map]
    refine ⟨a :: [] ++ as, .dict e1 e2.1 e3 (by rw [zip_fst hl]; exact q1) (by rw [zip_snd hl]; exact q), fun hm => ?_⟩
    rcases List.mem_cons.mp (show sysModules ∈ a :: as from hm) with e6 | e6
    · exact (beq_eq_false_iff_ne.mp hS) e6.symm
    · exact z e6
  | _, _, _, .dit (a := a) (kvs := kvs) (ds := ds) n h hs, r => by
    cases (show _ = Value.ref a from r)
    obtain ⟨_, hS, xs, kt, o, es, ep, e1, e2, e3, e4, _⟩ := (show ObjOk X.prog X.w H s.heap a (.dT kvs) from I.hok _ _ h)
    obtain ⟨q1, rv⟩ := reads_tups I (show KT H kvs xs from kt)
    obtain ⟨as, q, z⟩ := Dzs.reads y I hs rv
    have hl : (kvs.map fun p => PyData.tuple (p.1.map kD)).length = ds.length := by rw [List.length_map, ← hs.length, List.length_map]
    have k1 : es.toList.map (·.key) = xs.map fun x => Value.ref x.2.1 := by rw [e4, List.map_map]; rfl
    have k2 : es.toList.map (·.val) = xs.map fun x => x.2.2 := by rw [e4, List.map_map]; rfl
    refine ⟨a :: [] ++ as, .dict e1 e2.1 e3 (by rw [zip_fst hl, k1]; exact q1) (by rw [zip_snd hl, k2]; exact q), fun hm => ?_⟩
    rcases List.mem_cons.mp (show sysModules ∈ a :: as from hm) with e6 | e6
    · exact (beq_eq_false_iff_ne.mp hS) e6.symm
    · exact z e6
theorem Dzs.reads (y : Sys X.K) (I : Inv X pins σ H s) {l : Addr} : ∀ {vs : List V} {ds : List PyData} {us : List Value}, Dzs l H vs ds → Vals vs us → ∃ as, ReadsAll s.heap us ds as ∧ sysModules ∉ as
  | _, _, _, .nil, r => by cases r; exact ⟨[], .nil, by simp⟩
  | _, _, _, .cons h hs, r => by
    cases r with
    | cons r1 r2 =>
      obtain ⟨as, q1, z1⟩ := Dz.reads y I h r1
      obtain ⟨bs, q2, z2⟩ := Dzs.reads y I hs r2
      exact ⟨as ++ bs, .cons q1 q2, fun hm => (List.mem_append.mp hm).elim z1 z2⟩
end
end
/-- repr of a list, a tuple, a dict -/
def rRepr (l : Addr) : List V → Hp → VK → Prop := fun xs H Q => ∃ (a : Addr) (d : PyData), xs = [.ref a] ∧ Dz l H (.ref a) d ∧ d.showable = true ∧ d.depth ≤ 62 ∧ d.shown.length ≤ sizeLine ∧ Q (.str d.shown) H
theorem call_repr {X : Cx} {l : Addr} (y : Sys X.K) (hg : X.A.guards = some []) (hu : X.A.units + 64 < cLine) : CallR X (.builtin "repr") (rRepr l) := by
  intro pins s σ H xs us Q I r h
  obtain ⟨a, d, rfl, hd, hs, hp, hz, q⟩ := h
  obtain ⟨u, rfl, r1⟩ := vals1 r
  cases (show u = Value.ref a from r1)
  obtain ⟨as, rd, ns⟩ := hd.reads y I rfl
  exact repr_of_reads' rd hs (fun _ => ns) hg (by omega) (fun _ _ e => e) (fun h' u tk k => ⟨.str d.shown, H, I.kept (t' := tk) k, ⟨u, rfl⟩, q⟩) hz
end LL
set_option maxHeartbeats 4000000
/-! Defs whose frames stand outside of any repr that runs: their promise is asked at such callers alone. -/
namespace LL
open PySem PySem.Spec PyProof.Rows L2
/-- as FnOk, of callers without a guard on the stack -/
structure FnG (P : Program) (w : World) (K : PySem.W.Frag) (mg : Str → Option Value) (base : Heap) (CX : CXT) (k : Nat) (f : Addr) (fd : FuncData) (ps : List Str) (sp : Sp) : Prop where
  many : ∀ {vs H Q E}, sp vs H Q E → vs.length = ps.length
  go : ∀ {A : Around} {outer : List Env} {s : Shared} {H : Hp} {args : Args} {us : List Value} {vs : List V} {Q : VK} {E : XK}, A.guards = some [] → Room k A → Env0 P w K mg base A outer s H →
    BindsTo s fd args (ps.zip us) → Vals vs us → sp vs H Q E → codeAny (model P w) A (.call (.ref f) args) (CR CX outer P w H s Q E) s
section
variable {P : Program} {w : World} {K : PySem.W.Frag} {mg : Str → Option Value} {base : Heap} {CX : CXT}
theorem FnG.of {k : Nat} {f : Addr} {fd : FuncData} {ps : List Str} {sp : Sp} (F : FnOk P w K mg base CX k f fd ps sp) : FnG P w K mg base CX k f fd ps sp :=
  ⟨fun h => F.len _ _ _ _ h, fun _ hr e b r h => F.run _ _ _ _ _ _ _ _ _ hr e b r h⟩
theorem guards_deeper {A : Around} {env : Env} (h : A.guards = some []) : (A.deeper env).guards = some [] := by
  first | exact h | simpa [Around.deeper] using h
/-- the rule for a def of the text -/
theorem fnG_of {k : Nat} {f : Addr} {x qual : Str} {params : Arguments} {body : List Stmt} {scope : Scope} {fd : FuncData} {N ps : List Str} {sp : Sp} (F : FunD K x qual params body scope [] [] f fd) (S : FnScope N ps scope)
    (many : ∀ {vs H Q E}, sp vs H Q E → vs.length = ps.length)
    (hb : ∀ (cdv : Value) (A : Around) (outer : List Env) (s : Shared) (H : Hp) (vs : List V) (Q : VK) (E : XK), A.guards = some [] → Room k (A.deeper (envOfC qual scope s.heap.objs.size f cdv)) → sp vs H Q E →
      ∃ t, PSs (cxOf CX P w K mg base N qual scope f cdv A outer s H E) body t ∧ t { nx := fun _ H' => Q .non H', rt := Q } (start N vs) H) : FnG P w K mg base CX (k + 1) f fd ps sp := by
  obtain ⟨oc, od, dV, kV, doc, pm, an, cdv, ct, osl, e, lk, code, _, _⟩ := F.ex
  subst e
  constructor
  · exact many
  · intro A outer s H args us vs Q E hg hr e0 bound r h
    obtain ⟨t, ht, q⟩ := hb cdv A outer s H vs Q E hg (hr.deeper _) h
    have kp : ∀ b o, base.get? b = some o → s.heap.get? b = some o := fun b o z => (e0.bs b o z).1
    have KX : K.In s.heap := e0.mod.kin.keeps kp
    refine codeAny_call_function hr.depth (KX _ _ lk) rfl S.co S.gen rfl (PySem.W.codeRec_of KX code) (bound _ _ _ _ (wpAny_newFunctionEnv_cells S.kind ?_ ?_))
    · intro y hy
      have hp := S.par y.1 (List.of_mem_zip (show (y.1, y.2) ∈ ps.zip us from hy)).1
      exact hp.elim Or.inl fun z => Or.inr ⟨z, PySem.W.cellsFrom_some _ _ _ (Or.inl z)⟩
    · intro env he s1 x
      cases he
      refine ⟨(e0.mod.nolimit.keeps kp).keeps x.toInCall.keep, codeAny_func (wpAny_mono (ht.run [] s1 (start N vs) H _ (inv_start S hr.hd e0 (many h) r x) q) ?_ fun _ _ z => z)⟩
      intro fl s2 z
      cases fl with
      | ret u =>
        obtain ⟨v, σ2, H2, J, rv, q2⟩ := z
        exact ⟨v, H2, J.os, J.bare, J.base, J.hok, rv, q2⟩
      | next =>
        obtain ⟨σ2, H2, J, q2⟩ := z
        exact ⟨.non, H2, J.os, J.bare, J.base, J.hok, rfl, q2⟩
      | brk =>
        obtain ⟨_, _, _, z⟩ := z
        exact z.elim
      | cont =>
        obtain ⟨_, _, _, z⟩ := z
        exact z.elim
end
/-- f(e, ..) of such a def -/
theorem pe_callG {X : Cx} {CX : CXT} {k : Nat} {f : Addr} {fd : FuncData} {ps : List Str} {sp : Sp} {E : XK} {x : Str} {p pos : Pos} {e : Expr} {es : List Expr} {t : TA} (F : FnG X.prog X.w X.K X.mg X.base CX k f fd ps sp) (hG : X.A.guards = some [])
    (hr : Room k X.A) (hg : Gl X x) (hm : X.mg x = some (.ref f)) (hk : PySem.W.keepIn X.K (.ref f) = true) (hb : Binds X.K fd ps []) (hx : Passes CX X E) (ha : PA X (e :: es) t) (hdb : (x == ("__debug__" : Str)) = false := by decide)
    (he : starEach (e :: es) X.env = (false, eval e X.env) :: starEach es X.env := by rfl) (hpl : (backTo pos (starEach es X.env)).any (·.1) = false := by rfl) : PE X (.Call (.Name x p) (e :: es) [] pos) (tCall sp [] E t) := by
  constructor
  intro pins s σ H Q I h
  refine wpAny_Call_Name_kw (ld_glob I hg hm ?_ hdb)
  refine PySem.W.callWith_K (h₀ := X.base) I.ok.mod.kin hk (thn (ha.run pos pins s σ H _ I h) ?_) he hpl
  rintro us s1 ⟨vs, H1, I1, r, q⟩
  have q1 : sp vs H1 Q E := by
    have z : sp (vs ++ []) H1 Q E := q
    rwa [List.append_nil] at z
  have l1 : (us ++ []).length = ps.length := by rw [List.append_nil, ← r.length]; exact F.many q1
  have b1 := hb s1 us I1.kIn l1
  rw [List.append_nil] at b1
  refine ⟨I1.kIn, wpAny_call (codeAny_mono (F.go hG hr I1.env0 b1 r q1) ?_)⟩
  intro res s2 z
  match res, z with
  | .error er, z => exact hx pins σ H1 s1 er s2 I1 z
  | .ok (.ret u), z => exact I1.after z
/-- at the law's own call, from a heap in which the script alone is tracked -/
theorem law_atG {P : Program} {w : World} {K : PySem.W.Frag} {mg mb : Str → Option Value} {CX : CXT} {k : Nat} {fa a : Addr} {fd : FuncData} {x : Str} {sp : Sp} {s : Shared} {vs : List Value} (H : Hp)
    (KX : K.In s.heap) (hns : s.heap.Ns mainGlobals mg) (hb : s.heap.Ns builtinsNs mb) (hbb : ∀ x : Str, x ≠ "__name__" → mb x = bootBuiltins x) (hlim : s.heap.NoLimit) (hg : s.gens = #[])
    (ha : s.heap.get? a = some { cls := .type "list", data := .seq vs.toArray }) (hr : Room k callerA)
    (F : ∀ base : Heap, K.In base → base.Ns mainGlobals mg → FnG P w K mg base CX k fa fd [x] sp) (hbind : ∀ (s : Shared) (u : Value), BindsTo s fd ⟨[u], []⟩ [(x, u)])
    (hO : Only H) (hok : HOk P w H s.heap) (hA : ∀ b, H b ≠ none → b = a) (hK : H a ≠ none → K.lookup a = none)
    (hsp : sp [.ref a] H (fun v _ => v = .bl true) fun _ _ _ => False) (hCX : ∀ e s', CX [] H s (fun _ _ _ => False) e s' → False) :
    codeAny (model P w) callerA (.call (.ref fa) ⟨[.ref a], []⟩) (fun r s' => r = .ok (.ret (.bool true)) ∧ OldK s.heap s'.heap ∧ s'.os = s.os ∧ AllBare s'.gens) s := by
  have free : ∀ {b : Addr}, b ≠ a → H b = none := fun {b} n => by
    rcases Option.eq_none_or_eq_some (H b) with z | ⟨u, z⟩
    · exact z
    · exact absurd (hA b (by rw [z]; exact nofun)) n
  have dic : ∀ {b : Addr} {m : Str → Option Value}, s.heap.Ns b m → (hidT s.heap H).Ns b m := fun {b m} z => by
    obtain ⟨o, es, ep, e1, e2, e3⟩ := z
    refine ⟨o, es, ep, hidT_get e1 (free fun q => ?_), e2, e3⟩
    rw [q, ha] at e1
    cases e1
    cases e2
  have kin : K.In (hidT s.heap H) := fun b o e => by
    by_cases n : b = a
    · refine hidT_get (KX b o e) ?_
      rw [n]
      rcases Option.eq_none_or_eq_some (H a) with z | ⟨u, z⟩
      · exact z
      · have y := hK (by rw [z]; exact nofun)
        rw [n, y] at e
        cases e
    · exact hidT_get (KX b o e) (free n)
  have md : Mod K mg (hidT s.heap H) := by
    obtain ⟨mc, l1, l2⟩ := hlim
    exact ⟨kin, dic hns, ⟨mb, dic hb, hbb⟩, mc, dic l1, l2⟩
  have en : Env0 P w K mg (hidT s.heap H) callerA [] s H := ⟨rfl, md, fun _ _ z => of_hidT z, by rw [hidT_size]; exact Nat.le_refl _, True.intro, fun _ z => (List.not_mem_nil z).elim, hok, .of_eq hg⟩
  refine codeAny_mono ((F _ kin (dic hns)).go (us := [.ref a]) (vs := [.ref a]) rfl hr en (hbind s (.ref a)) (.cons rfl .nil) hsp) ?_
  intro res s' z
  match res, z with
  | .error er, z => exact (hCX er s' z).elim
  | .ok (.ret u), z =>
    obtain ⟨v, H', os, bare, un, ok2, rv, q⟩ := z
    have e1 : v = .bl true := q
    rw [e1] at rv
    have e2 : u = Value.bool true := rv
    rw [e2]
    refine ⟨rfl, OldK.of_keep fun b o e => ?_, os, bare⟩
    rcases hO b with n | ⟨ob, xs, n⟩
    · exact un.keep b o e n List.not_mem_nil List.not_mem_nil
    · have e3 : s.heap.get? b = some ob := (hok b _ n).1
      have e4 : s'.heap.get? b = some ob := (ok2 b _ (un.frzs b ob _ n)).1
      rw [e4, ← e3, e]
/-- a law whose def keeps such a promise -/
theorem walk_ofG {l : PySem.W.OpenLaw} {n k : Nat} {q : Program} {loose : List Str} {XP : (Str → Option Value) → Heap → Prop} {YP : World → Heap → Prop} {d : DefRec} {CX : CXT} {x : Str}
    (hn : l.most = some n) (hn2 : n ≤ sizeLine) (hdf : d.params.defaults = []) (hr : Room k callerA)
    (F : ∀ (w : World) (mg : Str → Option Value) (fa : Addr) (h : Heap), YP w h → h.Ns mainGlobals mg → mg d.name = some (.ref fa) →
      ∃ (K : PySem.W.Frag) (fd : FuncData) (sp : Sp), K.In h ∧ (∀ (s : Shared) (u : Value), BindsTo s fd ⟨[u], []⟩ [(x, u)]) ∧
        (∀ (H : Hp) (a : Addr) (ns : List Int), ns.length ≤ n → Only H → SqL K H a (ns.map V.int) → sp [.ref a] H (fun v _ => v = .bl true) fun _ _ _ => False) ∧
        ∀ base : Heap, K.In base → base.Ns mainGlobals mg → FnG l.prog w K mg base CX k fa fd [x] sp)
    (hCX : ∀ (H : Hp) (s : Shared) (e : Value) (s' : Shared), CX [] H s (fun _ _ _ => False) e s' → False) :
    PySem.W.WalkO q loose XP YP l.row.toRowW d [] (fun f vs => PySem.call f vs) := by
  refine Att.attach_call hn hdf ?_
  intro w s₀ s₁ mg mb fa o pm cd doc a vs ns G Y ho hd hcd hmg hobj hints hlen hg
  obtain ⟨K, fd, sp, KX, hb, hsp, hF⟩ := F w mg fa _ Y G.T.g hmg
  have rv := vals_ints hints
  have lv : vs.length = ns.length := hints.length
  have hl : ns.length ≤ sizeLine := Nat.le_trans hlen hn2
  cases hk : K.lookup a with
  | some u =>
    have e := KX a u hk
    rw [hobj] at e
    cases e
    have sq : SqL K (fun _ => none) a (ns.map V.int) := .inr ⟨_, vs.toArray, _, hk, rfl, rfl, rfl, by simpa [lv] using hl, by simpa using rv⟩
    exact law_atG (fun _ => none) KX G.T.g G.T.b G.T.builtins G.T.nolimit hg hobj hr hF hb (fun _ => .inl rfl) (fun _ _ z => nomatch z) (fun _ z => (z rfl).elim) (fun z => (z rfl).elim) (hsp _ a ns hlen (fun _ => .inl rfl) sq) fun e s' => hCX _ s₁ e s'
  | none =>
    have hO : Only (upd (fun _ => none) a (.frz { cls := .type "list", data := .seq vs.toArray } (.lst (ns.map V.int)))) := fun b => by
      by_cases n : b = a
      · exact .inr ⟨_, _, by rw [n, upd_same]⟩
      · exact .inl (by rw [upd_ne n])
    have one : ∀ b, upd (fun _ => none) a (.frz { cls := .type "list", data := .seq vs.toArray } (.lst (ns.map V.int))) b ≠ none → b = a := fun b z => by
      by_cases n : b = a
      · exact n
      · rw [upd_ne n] at z
        exact (z rfl).elim
    refine law_atG _ KX G.T.g G.T.b G.T.builtins G.T.nolimit hg hobj hr hF hb hO (fun b u z => ?_) one (fun _ => hk) (hsp _ a ns hlen hO (.inl (.inr ⟨_, upd_same⟩))) fun e s' => hCX _ s₁ e s'
    have n := one b (by rw [z]; exact nofun)
    subst n
    rw [upd_same] at z
    cases z
    exact ⟨hobj, by rw [List.length_map]; exact hl, vs, _, rv, hobj⟩
end LL
set_option maxHeartbeats 4000000
/-! Errors as values: made, read, asked; several except clauses with names. -/
namespace LL
open PySem PySem.Spec PyProof.Rows L2
abbrev VE : List Value := PySem.HandSPX.veTail
/-- an error's class: its line of classes is itself, kind, ValueError's; or it is kind -/
structure ErrC (K : PySem.W.Frag) (kind C : Addr) : Prop where
  ob : ∃ nm q N bs bm sn sub ab col dd k0 k1 k2 k3 k5, K.lookup C = some (excClassObj nm q C N bs bm true sn sub ab col dd k0 k1 k2 k3 k5 "ValueError.__new__") ∧ (bm = .ref kind :: VE ∨ (C = kind ∧ bm = VE))
  sa : PySem.W.findIn K (.ref C) "__setattr__" = some (some (.builtin "object.__setattr__"))
  ga : PySem.W.findIn K (.ref C) "__getattribute__" = some (some (.builtin "BaseException.__getattribute__"))
  gg : PySem.W.findIn K (.ref C) "__getattr__" = some none
  ac : PySem.W.findIn K (.ref C) "__class__" = some (some (.builtin "object.__class__"))
  kp : PySem.W.keepIn K (.ref C) = true
section
variable {K : PySem.W.Frag} {kind C D : Addr}
theorem ErrC.cls (T : ErrC K kind C) : ∃ cd bm, PySem.W.clsIn K C = some cd ∧ cd.mro = .ref C :: bm ∧ cd.hasDict = true ∧ (bm = .ref kind :: VE ∨ (C = kind ∧ bm = VE)) := by
  obtain ⟨nm, q, N, bs, bm, sn, sub, ab, col, dd, k0, k1, k2, k3, k5, h, m⟩ := T.ob
  refine ⟨{ name := nm, bases := bs, mro := .ref C :: bm, ns := N, qualname := q, hasDict := true, slotNames := sn, subclasses := sub, abstract := ab, collection := col, hasDel := false }, bm, ?_, rfl, rfl, m⟩
  unfold PySem.W.clsIn
  rw [h]
theorem ErrC.ty (T : ErrC K kind C) : PySem.W.typeIn K (.ref C) = some (.type "type") := by
  obtain ⟨nm, q, N, bs, bm, sn, sub, ab, col, dd, k0, k1, k2, k3, k5, h, m⟩ := T.ob
  show (K.lookup C).map (·.cls) = _
  rw [h] <;> rfl
theorem ErrC.subT (T : ErrC K kind C) (t : String) : PySem.W.subIn K (.ref C) (.type t) = some (VE.contains (.type t)) := by
  obtain ⟨cd, bm, h1, h2, _, m⟩ := T.cls
  show PySem.W.mroIn K C (.type t) = _
  unfold PySem.W.mroIn
  rw [h1, Option.bind_some, h2]
  rw [if_neg (by simp)]
  rcases m with m | ⟨_, m⟩ <;> subst m <;> simp [List.contains_cons]
theorem ErrC.subR (T : ErrC K kind C) : PySem.W.subIn K (.ref C) (.ref D) = some (decide (D = C ∨ D = kind)) := by
  obtain ⟨cd, bm, h1, h2, _, m⟩ := T.cls
  show PySem.W.mroIn K C (.ref D) = _
  unfold PySem.W.mroIn
  rw [h1, Option.bind_some, h2]
  rw [if_neg (by simp)]
  have e : ∀ a b : Addr, (Value.ref a == Value.ref b) = decide (a = b) := fun a b => by
    by_cases h : a = b
    · subst h; simp
    · have h2 : ¬ (Value.ref a = Value.ref b) := fun q => h (Value.ref.inj q)
      rw [decide_eq_false h]
      exact beq_eq_false_iff_ne.mpr h2
  rcases m with m | ⟨z, m⟩ <;> subst m
  · simp only [List.contains_cons, e, VE, PySem.HandSPX.veTail]
    congr 1
    by_cases h1 : D = C <;> by_cases h2 : D = kind <;> simp [h1, h2]
  · subst z
    simp only [List.contains_cons, e, VE, PySem.HandSPX.veTail]
    congr 1
    by_cases h1 : D = C <;> simp [h1]
theorem ErrC.hasD (T : ErrC K kind C) : PySem.W.hasDictIn K C = true := by
  obtain ⟨cd, bm, h1, h2, h3, m⟩ := T.cls
  unfold PySem.W.hasDictIn
  rw [h1]
  exact h3
theorem ErrC.exB (T : ErrC K kind C) : PySem.W.subIn K (.ref C) (.type "BaseException") = some true := (T.subT _).trans (by decide +kernel)
theorem ErrC.kitR (T : ErrC K kind C) (U : ErrC K kind D) : PySem.W.kitCls K (.ref C) (.ref D) = some (decide (D = C ∨ D = kind)) := by
  obtain ⟨cd, bm, h1, _⟩ := U.cls
  show (if ((PySem.W.clsIn K D).isSome && PySem.W.typeIn K (.ref D) == some (.type "type")) = true then PySem.W.subIn K (.ref C) (.ref D) else none) = _
  rw [if_pos (by rw [h1, U.ty]; rfl)]
  exact T.subR
theorem ErrC.kit (T : ErrC K kind C) (U : ErrC K kind D) : PySem.W.kitOne K (.ref C) (.ref D) = some (decide (D = C ∨ D = kind)) := by
  unfold PySem.W.kitOne
  by_cases h : C = D
  · subst h
    rw [if_pos (by simp)]
    simp
  · rw [if_neg (by simpa using h)]
    exact T.kitR U
theorem ErrC.kitV (T : ErrC K kind C) : PySem.W.kitOne K (.ref C) (.type "ValueError") = some true := by
  unfold PySem.W.kitOne
  rw [if_neg (by simp)]
  show (if PySem.W.kitMeta "ValueError" = true then PySem.W.subIn K (.ref C) (.type "ValueError") else none) = _
  rw [if_pos (by decide +kernel), T.subT]
  decide +kernel
theorem ErrC.exm (T : ErrC K kind C) (U : ErrC K kind D) : PySem.W.exmOne K (.ref C) (.ref D) = some (decide (D = C ∨ D = kind)) := by
  unfold PySem.W.exmOne
  rw [if_pos (by rw [U.exB]; rfl)]
  exact T.kitR U
theorem ErrC.oex (T : ErrC K kind C) : OexC K C := by
  obtain ⟨nm, q, N, bs, bm, sn, sub, ab, col, dd, k0, k1, k2, k3, k5, h, m⟩ := T.ob
  refine ⟨⟨nm, q, N, bs, bm, sn, sub, ab, col, dd, k0, k1, k2, k3, k5, h, ?_⟩, T.sa, T.exB, T.ty, T.kp⟩
  rcases m with m | ⟨_, m⟩ <;> subst m
  · show PySem.HandSPX.refsVE VE = true
    decide +kernel
  · decide +kernel
theorem ErrC.xf (T : ErrC K kind C) : XfC K C := ⟨T.ga, T.gg, T.exB, T.hasD⟩
theorem spc_get {K : PySem.W.Frag} : PySem.W.specialIn K (.builtin "object.__class__") "__get__" = some (some (.builtin "getset_descriptor.__get__")) := by
  show (PySem.W.typeIn K (.builtin "object.__class__")).bind (fun t => PySem.W.findIn K t "__get__") = _
  have e : PySem.W.typeIn K (.builtin "object.__class__") = some (.type "getset_descriptor") := by
    show PySem.W.pureOf (fastBuiltinType "object.__class__") = _
    kernel_rfl
  rw [e, Option.bind_some]
  show fastLookup "getset_descriptor" "__get__" = _
  kernel_rfl
theorem spc_set {K : PySem.W.Frag} : PySem.W.takesIn K (.builtin "object.__class__") = some true := by
  have e : PySem.W.typeIn K (.builtin "object.__class__") = some (.type "getset_descriptor") := by
    show PySem.W.pureOf (fastBuiltinType "object.__class__") = _
    kernel_rfl
  have e2 : PySem.W.specialIn K (.builtin "object.__class__") "__set__" = some (some (.builtin "getset_descriptor.__set__")) := by
    show (PySem.W.typeIn K (.builtin "object.__class__")).bind (fun t => PySem.W.findIn K t "__set__") = _
    rw [e, Option.bind_some]
    show fastLookup "getset_descriptor" "__set__" = _
    kernel_rfl
  unfold PySem.W.takesIn
  rw [e2]
theorem ErrC.kitX (T : ErrC K kind C) {a : Addr} {ox : Obj} {od : Option Obj} : PySem.W.KitX K (.ref a) (.ref C) (fun h => PySem.W.InstAt h a ox C od) := by
  obtain ⟨cd, bm, h1, h2, _, m⟩ := T.cls
  exact PySem.W.kitx_exc (by rw [h1]; rfl) T.ga T.gg T.exB T.ac spc_get spc_set ((T.subT "object").trans (by decide +kernel))
end
/-! ### an error that stands -/
/-- at a: an error of the class at D with these fields -/
def ErrAt (H : Hp) (a D : Addr) (fs : List (Str × V)) : Prop := (fs = [] ∧ H a = some (exo a D none)) ∨ ∃ d, H a = some (exo a D (some d)) ∧ H d = some (exd d fs)
theorem ErrAt.mono {H H' : Hp} {a D : Addr} {fs : List (Str × V)} (e : Evl.Ex H H') : ErrAt H a D fs → ErrAt H' a D fs
  | .inl ⟨h1, h2⟩ => .inl ⟨h1, e _ _ h2⟩
  | .inr ⟨d, h1, h2⟩ => .inr ⟨d, e _ _ h1, e _ _ h2⟩
section
variable {X : Cx} {pins : List (Addr × Obj)} {σ : L2.St} {H : Hp} {s : Shared} {a D kind : Addr} {fs : List (Str × V)}
theorem ErrAt.inst (h : ErrAt H a D fs) (I : Inv X pins σ H s) : ∃ ox od, PySem.W.InstAt s.heap a ox D od ∧ ∀ f v, fs.lookup f = some v → ∃ o u, od = some o ∧ PySem.W.lookIn f o = some (some u) ∧ RelV v u := by
  rcases h with ⟨h1, h2⟩ | ⟨d, h1, h2⟩
  · obtain ⟨t, e⟩ := exo_at I.hok h2
    exact ⟨_, none, ⟨e, rfl, rfl, True.intro⟩, fun f v q => by subst h1; cases q⟩
  · obtain ⟨t, e⟩ := exo_at I.hok h1
    obtain ⟨mA, hns, rel⟩ := exd_at I.hok h2
    obtain ⟨od, ho, hl⟩ := lookIn_ns hns
    refine ⟨_, some od, ⟨e, rfl, rfl, ho⟩, fun f v q => ?_⟩
    obtain ⟨u, hu, ru⟩ := RelO.some_of (v := v) (o := mA f) (by rw [← q]; exact rel f)
    exact ⟨od, u, rfl, by rw [hl, hu], ru⟩
/-- isinstance(e, C) of such an error -/
def rIsX (K : PySem.W.Frag) : List V → Hp → VK → Prop := fun xs H Q => ∃ (a D kind : Addr) (fs : List (Str × V)) (c : V) (cv : Value) (b : Bool), xs = [.ref a, c] ∧ ErrAt H a D fs ∧ ErrC K kind D ∧ ClsV c cv ∧ PySem.W.kitOne K (.ref D) cv = some b ∧ Q (.bl b) H
theorem call_isX : CallR X (.builtin "isinstance") (rIsX X.K) := by
  intro pins s σ H xs us Q I r h
  obtain ⟨a, D, kind, fs, c, cv, b, rfl, ha, T, kc, e, q⟩ := h
  obtain ⟨u1, u2, rfl, r1, r2⟩ := vals2 r
  have e2 := kc.eq r2
  subst e2
  cases (show u1 = Value.ref a from r1)
  obtain ⟨ox, od, J, _⟩ := ha.inst I
  exact PySem.W.kia_one (T.kitX (a := a) (ox := ox) (od := od)) I.kIn J e (fun z => nomatch z) fun tk => ⟨.bl b, H, I.tok tk, rfl, q⟩
/-- e.f of such an error -/
def tFx (K : PySem.W.Frag) (f : Str) (te : TE) : TE := fun σ H Q => te σ H fun x H1 => ∃ (a D kind : Addr) (fs : List (Str × V)) (v : V), x = .ref a ∧ ErrAt H1 a D fs ∧ ErrC K kind D ∧ PySem.W.findIn K (.ref D) f = some none ∧ fs.lookup f = some v ∧ Q v H1
theorem pe_fx {e : Expr} {te : TE} {pos : Pos} {n : Str} (he : PE X e te) (hb : attributeBase e n X.env (eval e X.env) = eval e X.env := by rfl) : PE X (.Attribute e n pos) (tFx X.K n te) := by
  constructor
  intro pins s σ H Q I h
  refine attr_of hb (thn (he.run pins s σ H _ I h) ?_)
  rintro u s1 ⟨x, H1, I1, rx, a, D, kind, fs, v, rfl, ha, T, hno, hl, q⟩
  cases (show u = Value.ref a from rx)
  obtain ⟨ox, od, J, look⟩ := ha.inst I1
  obtain ⟨o, w, rfl, hw, rw'⟩ := look n v hl
  exact PySem.HandSPX.exc_get I1.kIn J T.ga T.gg T.exB (PySem.W.findObj_own T.hasD hno rfl hw) (handed_of rw') ⟨v, H1, I1.tok _, rw', q⟩
end
/-! ### an error that is made -/
/-- C(e, ..), its own __init__ keeping sp -/
def tOex (C : Addr) (sp : Sp) (ta : TA) : TE := fun σ H Q => ta σ H fun vs H1 => ∀ a, H1 a = none → sp (.ref a :: vs) (upd H1 a (exo a C none)) (fun v H2 => v = .non ∧ Q (.ref a) H2) fun _ _ _ => False
section
variable {X : Cx} {CX : CXT} {x : Str} {C fI kind : Addr} {k : Nat} {fd : FuncData} {ps : List Str} {sp : Sp} {p pos : Pos} {e : Expr} {es : List Expr} {ta : TA}
theorem oex_run (T : ErrC X.K kind C) (iC : PySem.W.findIn X.K (.ref C) "__init__" = some (some (.ref fI))) (tI : PySem.W.typeIn X.K (.ref fI) = some (.type "function")) (F1 : FnOk X.prog X.w X.K X.mg X.base CX k fI fd ps sp) (hr : Room (k + 1) X.A)
    (hb : Binds X.K fd ps []) (hx : Passes CX X fun _ _ _ => False) (hps : ps.length ≤ 1000) {pins : List (Addr × Obj)} {σ : L2.St} {H1 : Hp} {s : Shared} {Q : VK} {us : List Value} {vs : List V} (I1 : Inv X pins σ H1 s) (r : Vals vs us)
    (h : ∀ a, H1 a = none → sp (.ref a :: vs) (upd H1 a (exo a C none)) (fun v H2 => v = .non ∧ Q (.ref a) H2) fun _ _ _ => False) : wpAny (model X.prog X.w) X.A (call (.ref C) us) (EP X pins σ Q) X.xe s := by
  obtain ⟨nm, q, N, bs, bm, sn, sub, ab, col, dd, k0, k1, k2, k3, k5, hC, hbm⟩ := T.oex.cls
  obtain ⟨hp, g, dr, tk, os⟩ := s
  have hn : H1 (hp.objs.size + 1) = none := I1.hok.fresh (Nat.le_succ _)
  have hq := h _ hn
  have l1 := F1.len _ _ _ _ hq
  have l2 : vs.length + 1 = ps.length := l1
  have lu : us.length = vs.length := r.length.symm
  have old : ∀ b o, hp.get? b = some o → ((hp.push (PySem.W.kdv_tup us)).push (PySem.HandSPX.excO C hp.objs.size)).get? b = some o := fun b o e => Heap.get?_push_of_some _ (Heap.get?_push_of_some _ e)
  have new : ((hp.push (PySem.W.kdv_tup us)).push (PySem.HandSPX.excO C hp.objs.size)).get? (hp.objs.size + 1) = some (PySem.HandSPX.excO C hp.objs.size) := by heap_get
  have I2 : Inv X pins σ (upd H1 (hp.objs.size + 1) (exo (hp.objs.size + 1) C none)) ⟨(hp.push (PySem.W.kdv_tup us)).push (PySem.HandSPX.excO C hp.objs.size), g, dr, tk, os⟩ :=
    I1.laid (t' := tk) (h' := (hp.push (PySem.W.kdv_tup us)).push (PySem.HandSPX.excO C hp.objs.size)) old (Nat.le_succ _) (exo_ok new)
  have b1 := hb ⟨(hp.push (PySem.W.kdv_tup us)).push (PySem.HandSPX.excO C hp.objs.size), g, dr, tk, os⟩ (Value.ref (hp.objs.size + 1) :: us) I2.kIn (by rw [List.append_nil, List.length_cons]; omega)
  rw [List.append_nil] at b1
  have sz : us.length ≤ sizeLine := by rw [sizeLine_eq]; omega
  refine wpAny_call (PySem.HandSPX.call_own PySem.F.excBase_ValueError (fun Y => PySem.HandSPX.refsVE_contains Y bm hbm) (I1.kIn _ _ hC) (PySem.W.looks_findIn I1.kIn iC) (fun self => PySem.W.bind_fn I1.kIn self tI) sz ?_)
  refine codeAny_mono (F1.run _ X.stack _ _ ⟨Value.ref (hp.objs.size + 1) :: us, []⟩ (Value.ref (hp.objs.size + 1) :: us) (V.ref (hp.objs.size + 1) :: vs) _ _ (hr.make C us []) (I2.env0.make C us []) b1 (.cons rfl r) hq) ?_
  intro res s2 z
  match res, z with
  | .error er, z => exact (hx pins σ _ _ er s2 I2 z)
  | .ok (.ret u), z =>
    obtain ⟨v, H2, J, rv, ev, q2⟩ := I2.after z
    subst ev
    exact ⟨rv, .ref (hp.objs.size + 1), H2, J, rfl, q2⟩
theorem pe_oex (T : ErrC X.K kind C) (iC : PySem.W.findIn X.K (.ref C) "__init__" = some (some (.ref fI))) (tI : PySem.W.typeIn X.K (.ref fI) = some (.type "function")) (F1 : FnOk X.prog X.w X.K X.mg X.base CX k fI fd ps sp) (hr : Room (k + 1) X.A)
    (hb : Binds X.K fd ps []) (hx : Passes CX X fun _ _ _ => False) (hps : ps.length ≤ 1000) (hg : Gl X x) (hm : X.mg x = some (.ref C)) (ha : PA X (e :: es) ta) (hdb : (x == ("__debug__" : Str)) = false := by decide)
    (he : starEach (e :: es) X.env = (false, eval e X.env) :: starEach es X.env := by rfl) (hpl : (backTo pos (starEach es X.env)).any (·.1) = false := by rfl) : PE X (.Call (.Name x p) (e :: es) [] pos) (tOex C sp ta) := by
  constructor
  intro pins s σ H Q I h
  refine wpAny_Call_Name_kw (ld_glob I hg hm ?_ hdb)
  refine PySem.W.callWith_K (h₀ := X.base) I.ok.mod.kin T.kp (thn (ha.run pos pins s σ H _ I h) ?_) he hpl
  rintro us s1 ⟨vs, H1, I1, r, q⟩
  exact ⟨I1.kIn, oex_run T iC tI F1 hr hb hx hps I1 r q⟩
theorem pe_oex0 (T : ErrC X.K kind C) (iC : PySem.W.findIn X.K (.ref C) "__init__" = some (some (.ref fI))) (tI : PySem.W.typeIn X.K (.ref fI) = some (.type "function")) (F1 : FnOk X.prog X.w X.K X.mg X.base CX k fI fd ps sp) (hr : Room (k + 1) X.A)
    (hb : Binds X.K fd ps []) (hx : Passes CX X fun _ _ _ => False) (hps : ps.length ≤ 1000) (hg : Gl X x) (hm : X.mg x = some (.ref C)) (hdb : (x == ("__debug__" : Str)) = false := by decide) : PE X (.Call (.Name x p) [] [] pos) (tOex C sp tNil) := by
  constructor
  intro pins s σ H Q I h
  refine wpAny_Call_Name_kw (ld_glob I hg hm ?_ hdb)
  exact PySem.W.callWith_K0 I.kIn T.kp (oex_run (us := []) (vs := []) T iC tI F1 hr hb hx hps I .nil h)
/-- C() of a class without own __init__ -/
def tOwn0 (C : Addr) : TE := fun _ H Q => ∀ a, H a = none → Q (.ref a) (upd H a (exo a C none))
theorem pe_own0 (T : ErrC X.K kind C) (q : PySem.W.excIn X.K C He.veBase "ValueError.__new__" = true) (hg : Gl X x) (hm : X.mg x = some (.ref C)) (hdb : (x == ("__debug__" : Str)) = false := by decide) : PE X (.Call (.Name x p) [] [] pos) (tOwn0 C) := by
  constructor
  intro pins s σ H Q I h
  refine wpAny_Call_Name_kw (ld_glob I hg hm ?_ hdb)
  refine PySem.W.callWith_K0 I.kIn T.kp ?_
  obtain ⟨bm, N, nm, qn, bs, hdct, sn, sub, ab, col, dd, k0, k1, k2, k3, k5, mN, hC, hN, hni, OT⟩ := exc_obj I.kIn q
  obtain ⟨hp, g, dr, tk, os⟩ := s
  refine wpAny_call_exc_subT PySem.F.excBase_ValueError OT hC hN hni (fun h' a hm => ?_) (by show 0 ≤ sizeLine; omega)
  have na : H a = none := I.hok.gone hm.new
  obtain ⟨t, ht, _⟩ := hm.there
  exact ⟨.ref a, upd H a (exo a C none), I.laidN (t' := tk) hm.keeps hm.new na (exo_ok ht), rfl, h a na⟩
end
end LL
set_option maxHeartbeats 4000000
/-! try: body / except C as n: .. / except D as m: .. -/
namespace LL
open PySem PySem.Spec PyProof.Rows L2
/-- one clause: its class, its name's slot, its suite -/
structure Cl where
  c : Value
  i : Nat
  ts : Addr → Value → Option Addr → TS
/-- behind a suite the name is gone -/
def gone (D : Ends) (i : Nat) : Ends := { nx := fun σ H => D.nx (σ.set i none) H, rt := D.rt, bk := fun σ H => D.bk (σ.set i none) H, ct := fun σ H => D.ct (σ.set i none) H }
def wCls (K : PySem.W.Frag) (W : WX) (D : Ends) : List Cl → WX
  | [] => W
  | q :: l => fun cls d σ H => ∃ b, PySem.W.exmOne K cls q.c = some b ∧ (b = true → ∀ a, H a = none → q.ts a cls d (gone D q.i) (σ.set q.i (some (.ref a))) H) ∧ (b = false → wCls K W D l cls d σ H)
/-- the clauses as the text has them -/
inductive Cls (X : Cx) : List ExceptHandler → List Cl → Prop
  | nil : Cls X [] []
  | cons {x n : Str} {q : Cl} {b : Stmt} {suite : List Stmt} {np pos : Pos} {hs : List ExceptHandler} {l : List Cl} (nm : Names X x q.c) (at_ : X.N[q.i]? = some n) (lo : X.env.kindOf n = some .local)
      (run : ∀ (a : Addr) (oe : Obj) (cls : Value) (d : Option Addr) (pn : List (Addr × Obj)), Zc cls d oe → (∃ vs, oe.data = .fields vs) → PSs (X.suite a ((a, oe) :: pn)) (b :: suite) (q.ts a cls d)) (r : Cls X hs l) :
      Cls X (.ExceptHandler (some (.Name x np)) (some n) (b :: suite) pos :: hs) (q :: l)
section
variable {X : Cx} {hs : List ExceptHandler} {l : List Cl} {W : WX}
/-- what is known where a clause is looked at: the error at a, flying over the ground B, the state I without it -/
structure Air (X : Cx) (pins : List (Addr × Obj)) (σ : L2.St) (H : Hp) (a : Addr) (B : Heap) (cls : Value) (d : Option Addr) (sI s : Shared) : Prop where
  I : Inv X pins σ H sI
  nb : ∀ b o, sI.heap.get? b = some o → b ∉ frs X.stack → B.get? b = some o
  up : sI.heap.UpToSlots s.heap
  fl : PySem.HandSPX.FlyingZ B X.stack a (Zc cls d) s.heap
  na : H a = none
  os : s.os = sI.os
  ag : AllBare s.gens
theorem Air.inv {pins : List (Addr × Obj)} {σ : L2.St} {H : Hp} {a : Addr} {B : Heap} {cls : Value} {d : Option Addr} {sI s : Shared} (y : Air X pins σ H a B cls d sI s) : Inv X pins σ H s := y.I.landed y.nb y.fl.1 y.up y.os y.ag
/-- the error's object, out of all frames -/
theorem Air.obj {pins : List (Addr × Obj)} {σ : L2.St} {H : Hp} {a : Addr} {B : Heap} {cls : Value} {d : Option Addr} {sI s : Shared} (y : Air X pins σ H a B cls d sI s) (hst : X.stack = X.env :: X.outer) (hf : X.env.frame = some X.env.locals) :
    ∃ oe vs, s.heap.get? a = some oe ∧ Zc cls d oe ∧ oe.data = .fields vs ∧ a ≠ X.env.locals ∧ a ∉ X.fs := by
  obtain ⟨oe, vs, e, z, dt⟩ := y.fl.there
  have out : a ∉ frs X.stack := fun hm => by
    obtain ⟨_, o2, e2, no⟩ := y.fl.2.2.1.mem hm
    rw [e] at e2
    cases e2
    exact no _ dt
  rw [hst] at out
  refine ⟨oe, vs, e, z, dt, fun q => out ?_, fun q => out ?_⟩
  · exact List.mem_filterMap.mpr ⟨X.env, List.mem_cons_self, by rw [hf, q]⟩
  · obtain ⟨v, h1, h2⟩ := List.mem_filterMap.mp q
    exact List.mem_filterMap.mpr ⟨v, List.mem_cons_of_mem _ h1, h2⟩
theorem handled {pos : Pos} (hst : X.stack = X.env :: X.outer) (hf : X.env.frame = some X.env.locals) (hN : X.N.Nodup) (tk : Takes X W) (D : Ends) {pins : List (Addr × Obj)} {a : Addr} {B : Heap} {cls : Value} {d : Option Addr} {σ : L2.St} {H : Hp} {sI : Shared}
    (hk : Cls X hs l) : ∀ {s : Shared}, Air X pins σ H a B cls d sI s → wCls X.K W D l cls d σ H → wpAny (model X.prog X.w) X.A (handleBy (.ref a) X.env hs) (SP X pins D) X.xe s := by
  induction hk with
  | nil =>
    intro s y w
    have w : W cls d σ H := w
    obtain ⟨hp, g, dr, t, os⟩ := s
    refine wpAny_handleBy_nil ?_
    unfold PySem.passOn
    obtain ⟨_, _, _, oe, vs, T, oT, ts, e, _, dt, h1, _⟩ := id y.fl
    refine wpAny_bind (wpAny_field e dt h1 ?_)
    rw [if_neg (show ¬ ((Value.ref T == Value.none) = true) from by simp)]
    have last : wpAny (model X.prog X.w) X.A (setFlight (.ref a) X.env.frame) (fun _ s2 => wpAny (model X.prog X.w) X.A (throw (.ref a) : Sem Flow) (SP X pins D) X.xe s2) X.xe ⟨hp, g, dr, t, os⟩ := by
      rw [hf]
      refine PySem.HandSPX.setFlight_upZ (L := X.env.locals) y.fl fun h2 hh up2 => wpAny_throw (tk _ _ ⟨a, B, sI, pins, σ, H, cls, d, rfl, y.I, y.nb, y.up.trans up2, .inr (.inr hh), y.na, y.os, y.ag, w⟩)
    first
      | exact wpAny_bind (wpAny_pure (wpAny_bind last))
      | exact wpAny_bind last
  | @cons x n q b suite np hpos hs2 l2 nm at_ lo run r ih =>
    intro s y w
    obtain ⟨ok, h1, yes, no⟩ := w
    have J := y.inv
    obtain ⟨oe, vs, e, z, dt, nL, nF⟩ := y.obj hst hf
    have S := J.suite e dt y.na nL nF
    obtain ⟨hp, g, dr, t, os⟩ := s
    have tyo : PySem.W.Looks (model X.prog X.w) hp (typeOf (.ref a)) cls := fun A Q E s k p => wpAny_typeOf_ref (k _ _ e) (by rw [z.1]; exact p)
    have look := PySem.W.exm_one (M := model X.prog X.w) J.kIn tyo h1
    refine wpAny_handleBy_cons (codeAny_handlers_test ?_) (by intro q; cases q)
    have named : ∀ {Q : Value → Shared → Prop} {E : Value → Shared → Prop}, Q q.c ⟨hp, g, dr, t, os⟩ → wpAny (model X.prog X.w) (X.A.mark (some (.ref a))) (eval (.Name x np) X.env) Q E ⟨hp, g, dr, t, os⟩ := by
      intro Q E k
      obtain ⟨hg, nd, m⟩ := nm
      rcases m with m | ⟨m, v, nn⟩
      · exact ld_glob (X := X.suite a ((a, oe) :: (X.pn ++ pins))) S hg m k nd
      · exact ld_blt (X := X.suite a ((a, oe) :: (X.pn ++ pins))) S hg m v k nn nd
    refine named (look.here ?_)
    cases ok with
    | false => exact ih y (no rfl)
    | true =>
      refine codeAny_handlers_suite_as (PySem.HandSPX.lands_againZ y.fl fun h2 fl2 up2 => ?_)
      have y2 : Air X pins σ H a B cls d sI ⟨h2, g, dr, t, os⟩ := ⟨y.I, y.nb, y.up.trans up2, fl2, y.na, y.os, y.ag⟩
      obtain ⟨oe2, vs2, e2, z2, dt2, nL2, nF2⟩ := y2.obj hst hf
      have S2 := y2.inv.suite e2 dt2 y.na nL2 nF2
      refine store_ok (X := X.suite a ((a, oe2) :: (X.pn ++ pins))) (v := .ref a) S2 hN at_ (.inl lo) rfl (fun s3 S3 => ?_) (.inr lo)
      refine wpAny_mono ((run a oe2 cls d (X.pn ++ pins) z2 ⟨_, dt2⟩).run [] s3 _ H _ S3 (yes rfl a y.na)) ?_ fun _ _ f => False.elim f
      intro fl s4 k
      have out : ∀ {σ4 : L2.St} {H4 : Hp} {R : Shared → Prop}, Inv (X.suite a ((a, oe2) :: (X.pn ++ pins))) [] σ4 H4 s4 → (∀ s5, Inv X pins (σ4.set q.i none) H4 s5 → R s5) →
          wpAny (model X.prog X.w) X.A (do bindName X.env n .none; unbindBehindTheSuite X.env n hpos) (fun _ s5 => R s5) X.xe s4 := fun S4 k4 => gone_ok (S4.unsuite y.I.ok) hN at_ lo k4
      match fl, k with
      | .next, ⟨σ4, H4, S4, k4⟩ => exact out S4 fun s5 J5 => ⟨_, _, J5, k4⟩
      | .brk, ⟨σ4, H4, S4, k4⟩ => exact out S4 fun s5 J5 => ⟨_, _, J5, k4⟩
      | .cont, ⟨σ4, H4, S4, k4⟩ => exact out S4 fun s5 J5 => ⟨_, _, J5, k4⟩
      | .ret u, ⟨v, σ4, H4, S4, r4, k4⟩ => exact out S4 fun s5 J5 => ⟨_, _, _, J5, r4, k4⟩
theorem ps_tryC {body : List Stmt} {h₀ : ExceptHandler} {pos : Pos} {tb : WX → TS} (hst : X.stack = X.env :: X.outer) (hf : X.env.frame = some X.env.locals) (hN : X.N.Nodup) (tk : Takes X W)
    (hb : ∀ (W : WX) (pn : List (Addr × Obj)) (xe : Value → Shared → Prop), Takes (X.tr pn xe) W → PassesOwn (model X.prog X.w) X.A X.env xe → PSs (X.tr pn xe) body (tb W)) (hk : Cls X (h₀ :: hs) l) :
    PS X (.Try body (h₀ :: hs) [] [] pos) (fun D σ H => tb (wCls X.K W D l) D σ H) := by
  constructor
  intro pins s σ H D I h
  have ok := I.ok
  have fr : X.A.frames = some (X.env :: X.outer) := by rw [ok.frames, hst]
  refine wpAny_Try_except (wpAny_mono ((hb (wCls X.K W D l) (X.pn ++ pins) (fun e s₁ => wpAny (model X.prog X.w) X.A (noteFrame e X.env) (fun _ s₂ => wpAny (model X.prog X.w) X.A (setFlight e none) (fun _ s₃ =>
    wpAny (model X.prog X.w) X.A (handleBy e X.env (h₀ :: hs)) (SP X pins D) X.xe s₃) X.xe s₂) X.xe s₁) ?_ PassesOwn.looking).run [] s σ H D (I.toTry _) h) ?_ fun _ _ z => z)
  · rintro u s' ⟨a, B, sI, pins', σ', H', cls, d, rfl, J', nb, up, sky, na, os, ag, w⟩
    have J : Inv X pins σ' H' sI := J'.ofTry ok
    have sk : Sky B (X.env :: X.outer) a (Zc cls d) X.env.locals s'.heap := by rw [← hst]; exact sky
    refine Sky.land Zc.steady fr hf sk fun h2 fl2 up2 => ?_
    rw [← hst] at fl2
    exact handled (pos := pos) hst hf hN tk D hk ⟨J, nb, up.trans up2, fl2, na, os, ag⟩ w
  · intro fl s1 k
    match fl, k with
    | .next, ⟨σ', H', J, q⟩ => exact wpAny_execs_nil ⟨σ', H', J.ofTry ok, q⟩
    | .brk, ⟨σ', H', J, q⟩ => exact ⟨σ', H', J.ofTry ok, q⟩
    | .cont, ⟨σ', H', J, q⟩ => exact ⟨σ', H', J.ofTry ok, q⟩
    | .ret u, ⟨v, σ', H', J, r, q⟩ => exact ⟨v, σ', H', J.ofTry ok, r, q⟩
end
/-- pe_xf with the caught error named by where it is pinned -/
theorem pe_xfP {X : Cx} {a C : Addr} {oe : Obj} {cls : Value} {d : Option Addr} {e : Expr} {te : TE} {pos : Pos} {n : Str} (hp : (a, oe) ∈ X.pn) (T : XfC X.K C) (hno : PySem.W.findIn X.K (.ref C) n = some none)
    (hz : Zc cls d oe) (hf : ∃ vs, oe.data = .fields vs) (he : PE X e te) (hb : attributeBase e n X.env (eval e X.env) = eval e X.env := by rfl) :
    PE X (.Attribute e n pos) (tXf a cls d C n te) := by
  refine ⟨fun pins s σ H Q I h => ?_⟩
  refine attr_of hb (thn (he.run pins s σ H _ I h) fun u s1 hh => ?_)
  obtain ⟨x, H1, I1, rx, ex, ec, dd, fs, v, ed, ea, l, q⟩ := hh
  subst ex
  obtain rfl : u = Value.ref a := rx
  subst ec
  subst ed
  obtain ⟨ha, _⟩ := I1.pin (a, oe) (List.mem_append_left _ hp)
  obtain ⟨vs, hd⟩ := hf
  have hx : ObjOk X.prog X.w H1 s1.heap dd (.xd fs) := I1.hok dd _ ea
  obtain ⟨mA, hns, hr⟩ := hx
  obtain ⟨od, ho, hl⟩ := lookIn_ns hns
  obtain ⟨u, hu, ru⟩ := RelO.some_of (v := v) (o := mA n) (by rw [← l]; exact hr n)
  have J : PySem.W.InstAt s1.heap a oe C (some od) := ⟨ha, hz.1, by unfold PySem.W.notCls; rw [hd] <;> rfl, by rw [hz.2]; exact ho⟩
  exact HandSPX.exc_get I1.kIn J T.ga T.gg T.exC (PySem.W.findObj_own T.hdC hno rfl (by rw [hl, hu])) (handed_of ru) ⟨v, H1, I1.tok _, ru, q⟩
end LL
set_option maxHeartbeats 4000000
/-! {k: v} where k is a tuple of ints and texts. -/
namespace LL
open PySem PySem.Spec PyProof.Rows L2
def tDisp1 (tk tv : TE) : TE := fun σ H Q => ∀ p, H p = none → tk σ (upd H p (.dT [])) fun x H1 => tv σ H1 fun y H2 => ∃ (b : Addr) (ks : List Key), x = .ref b ∧ H2 b = some (.tup (ks.map kV)) ∧ H2 p = some (.dT []) ∧ Q (.ref p) (upd H2 p (.dT [(ks, y)]))
theorem pe_disp1 {X : Cx} {k v : Expr} {pos : Pos} {tk tv : TE} (hu : X.A.units + 1 < cLine) (hk : PE X k tk) (hv : PE X v tv) : PE X (.Dict [some k] [v] pos) (tDisp1 tk tv) := by
  constructor
  intro pins s σ H Q I q
  have hn := I.hok.fresh (Nat.le_refl s.heap.objs.size)
  have I1 := I.laid (a := s.heap.objs.size) (o := .dT []) (h' := s.heap.push { cls := .type "dict", data := .dict #[] }) (t' := s.toks) (fun _ _ z => Heap.get?_push_of_some _ z) (Nat.le_refl _) (dt_empty s.heap I.big)
  rw [arm_eval_Dict, zip_pairTrees [some k] [v] X.env pos rfl rfl, dictDisplay_pairs _ (by simp [pairTrees]) (by simp [pairTrees])]
  refine wpAny_bind (wpAny_standAt (wpAny_bind ?_))
  unfold subDict
  refine wpAny_bind (wpAny_alloc (wpAny_bind (wpAny_holding ?_)))
  rw [if_pos (show (pairTrees [some k] [v] X.env pos).length ≤ 15 by simp [pairTrees])]
  refine wpAny_bind (pairTrees_cons_walk (thn (hk.run pins _ σ _ _ I1 (q _ hn)) ?_))
  rintro ku s1 ⟨x, H1, I2, rk, q1⟩
  refine thn (hv.run pins s1 σ H1 _ I2 q1) ?_
  rintro vu s2 ⟨y, H2, I3, rv, b, ks, rfl, hb, hp, q2⟩
  refine pairTrees_nil_walk (wpAny_holding ?_)
  cases (show ku = Value.ref b from rk)
  rw [List.forIn_cons]
  obtain ⟨z, hd, xs, kt, dd⟩ := dt_of I3.hok hp
  cases kt
  refine wpAny_bind (wpAny_bind (wpAny_bind (wpAny_dictSet_heap (hsz := Nat.zero_le _) (show X.A.units < cLine by omega) (key_of I3.hok hb) dd fun h' dd' hs => wpAny_pure ?_)))
  dsimp only
  rw [List.forIn_nil]
  refine wpAny_pure (wpAny_pure (wpAny_pure (wpAny_pure ⟨.ref s.heap.objs.size, upd H2 s.heap.objs.size (.dT [(ks, y)]), ?_, rfl, q2⟩)))
  obtain ⟨o, es, ep, e1, e2, e3, e4, e5, e6⟩ := dd'
  refine d_write I3 (by rw [hp]; exact True.intro) hs ⟨o, e1⟩ ⟨by simp [sizeLine_eq], hd, _, .cons (b := (ks, b, vu)) ⟨rfl, ?_, rv⟩ .nil, o, es, ep, e1, e2, e3, e4, e6⟩
  show upd H2 s.heap.objs.size (.dT [(ks, y)]) b = _
  rw [upd_ne (ne_of hb hp (fun z => nomatch z))]
  exact hb
end LL
set_option maxHeartbeats 4000000
/-! Defs by their names: a def that the top left, with its promise. -/
namespace LL
open PySem PySem.Spec PyProof.Rows L2
/-- the module's name x is a def that keeps sp -/
def Has (P : Program) (w : World) (K : PySem.W.Frag) (mg : Str → Option Value) (base : Heap) (CX : CXT) (x : Str) (k : Nat) (ps : List Str) (sp : Sp) : Prop :=
  ∃ f fd, mg x = some (.ref f) ∧ PySem.W.keepIn K (.ref f) = true ∧ Binds K fd ps [] ∧ FnOk P w K mg base CX k f fd ps sp
abbrev HasX (X : Cx) (CX : CXT) (x : Str) (k : Nat) (ps : List Str) (sp : Sp) : Prop := Has X.prog X.w X.K X.mg X.base CX x k ps sp
section
variable {X : Cx} {CX : CXT} {x : Str} {j k : Nat} {ps : List Str} {sp : Sp} {E : XK} {W : WX} {p pos : Pos} {e : Expr} {es : List Expr} {ta : TA}
theorem pe_callH (h : HasX X CX x k ps sp) (hr : Room j X.A) (hx : Passes CX X E) (ha : PA X (e :: es) ta) (hj : k ≤ j := by decide) (hg : Gl X x := by rfl) (hdb : (x == ("__debug__" : Str)) = false := by decide)
    (he : starEach (e :: es) X.env = (false, eval e X.env) :: starEach es X.env := by rfl) (hpl : (backTo pos (starEach es X.env)).any (·.1) = false := by rfl) : PE X (.Call (.Name x p) (e :: es) [] pos) (tCall sp [] E ta) := by
  obtain ⟨f, fd, hm, hk, hb, F⟩ := h
  exact pe_call F (hr.mono hj) hg hm hk hb .nil hx ha hdb he hpl
theorem pe_callH0 (h : HasX X CX x k ps sp) (hr : Room j X.A) (hx : Passes CX X E) (hj : k ≤ j := by decide) (hg : Gl X x := by rfl) (hdb : (x == ("__debug__" : Str)) = false := by decide) : PE X (.Call (.Name x p) [] [] pos) (tCall sp [] E tNil) := by
  obtain ⟨f, fd, hm, hk, hb, F⟩ := h
  exact pe_call0 F (hr.mono hj) hg hm hk hb .nil hx hdb
/-- in a try's body, what it lets out being wished for -/
theorem pe_callHS {C : Cx} (h : HasX C (L2.CX C.prog C.w) x k ps sp) (hr : Room j C.A) (tk : Takes C W) (ha : PA C (e :: es) ta) (hj : k ≤ j := by decide) (hg : Gl C x := by rfl) (hdb : (x == ("__debug__" : Str)) = false := by decide)
    (he : starEach (e :: es) C.env = (false, eval e C.env) :: starEach es C.env := by rfl) (hpl : (backTo pos (starEach es C.env)).any (·.1) = false := by rfl) : PE C (.Call (.Name x p) (e :: es) [] pos) (tCallS sp (WE W) ta) := by
  obtain ⟨f, fd, hm, hk, hb, F⟩ := h
  exact pe_callS F (hr.mono hj) hg hm hk hb (fun σ => passAt tk σ) ha hdb he hpl
end
theorem pe_ref {X : Cx} {x : Str} {C : Addr} {pos : Pos} (hm : X.mg x = some (.ref C)) (hg : Gl X x := by rfl) (hd : (x == ("__debug__" : Str)) = false := by decide) : PE X (.Name x pos) (tC (.ref C)) := pe_glob (v := .ref C) hg hm rfl hd
/-- a def of the text: its facts (a def of the top, under its own name) -/
abbrev FnT (K : PySem.W.Frag) (x : Str) (st : Stmt) (f : Addr) (fd : FuncData) : Prop := FunD K x x (defArgs st) (defBody st) (defScope st) [] [] f fd
end LL
set_option maxHeartbeats 4000000
/-! Open things over the heap: what stands at a value, its parts in the text's order, filling. -/
namespace LL
open PySem PySem.Spec PyProof.Rows L2 Evl
theorem M2.ok {X : Cx} {o : Expr} {m : Str} {apos : Pos} {e f : Expr} {cpos : Pos} (h1 : attributeBase o m X.env (eval o X.env) = eval o X.env := by rfl)
    (h2 : ((backTo cpos (starEach [e, f] X.env)).all (fun x => !x.1) && (backToKw cpos (keywordEach [] X.env)).all (fun x => x.1.isSome) && decide (([e, f] : List Expr).length + ([] : List Keyword).length + (if ([] : List Keyword).isEmpty then 0 else 1) < 30)) = true := by rfl)
    (h3 : (apos.endLine == cpos.line) = true := by rfl) (h4 : backTo cpos (starEach [e, f] X.env) = [(false, eval e X.env), (false, eval f X.env)] := by rfl) : M2 X o m apos e f cpos := ⟨h1, h2, h3, h4⟩
/-- a thing: a number, a word, a head with things -/
inductive Thg where
  | num (i : Int)
  | word (s : Str)
  | node (h : Str) (xs : List Thg)
mutual
inductive Tv (H : Hp) : V → Thg → Prop
  | num (i : Int) : Tv H (.int i) (.num i)
  | word (s : Str) : Tv H (.str s) (.word s)
  | node {a : Addr} {h : Str} {vs : List V} {ts : List Thg} (e : H a = some (.tup (.str h :: vs))) (hs : Tvs H vs ts) (nb : h ≠ "!" := by decide) : Tv H (.ref a) (.node h ts)
inductive Tvs (H : Hp) : List V → List Thg → Prop
  | nil : Tvs H [] []
  | cons {v : V} {vs : List V} {t : Thg} {ts : List Thg} (h : Tv H v t) (hs : Tvs H vs ts) : Tvs H (v :: vs) (t :: ts)
end
mutual
theorem Tv.mono {H H' : Hp} (e : ∀ a xs, H a = some (.tup xs) → H' a = some (.tup xs)) : ∀ {v : V} {t : Thg}, Tv H v t → Tv H' v t
  | _, _, .num i => .num i
  | _, _, .word s => .word s
  | _, _, .node h hs nb => .node (e _ _ h) (Tvs.mono e hs) nb
theorem Tvs.mono {H H' : Hp} (e : ∀ a xs, H a = some (.tup xs) → H' a = some (.tup xs)) : ∀ {vs : List V} {ts : List Thg}, Tvs H vs ts → Tvs H' vs ts
  | _, _, .nil => .nil
  | _, _, .cons h hs => .cons (Tv.mono e h) (Tvs.mono e hs)
end
/-- tuples stay -/
def TupEx (H H' : Hp) : Prop := ∀ a xs, H a = some (.tup xs) → H' a = some (.tup xs)
theorem TupEx.of {H H' : Hp} (e : Ex H H') : TupEx H H' := fun a xs h => e a _ h
theorem TupEx.trans {H H1 H2 : Hp} (a : TupEx H H1) (b : TupEx H1 H2) : TupEx H H2 := fun x xs h => b x xs (a x xs h)
theorem TupEx.lst {H : Hp} {l : Addr} {xs ys : List V} (h : H l = some (.lst xs)) : TupEx H (upd H l (.lst ys)) := fun a zs e => by
  rw [upd_ne (fun q => by rw [q, h] at e; cases e)]
  exact e
theorem Tvs.len {H : Hp} : ∀ {vs : List V} {ts : List Thg}, Tvs H vs ts → vs.length = ts.length
  | _, _, .nil => rfl
  | _, _, .cons _ hs => congrArg (· + 1) (Tvs.len hs)
theorem Tvs.app {H : Hp} {us : List V} {ss : List Thg} (k : Tvs H us ss) : ∀ {vs : List V} {ts : List Thg}, Tvs H vs ts → Tvs H (vs ++ us) (ts ++ ss)
  | _, _, .nil => k
  | _, _, .cons h hs => .cons h (Tvs.app k hs)
theorem Tvs.rev {H : Hp} : ∀ {vs : List V} {ts : List Thg}, Tvs H vs ts → Tvs H vs.reverse ts.reverse
  | _, _, .nil => .nil
  | _, _, .cons h hs => by
    rw [List.reverse_cons, List.reverse_cons]
    exact Tvs.app (.cons h .nil) (Tvs.rev hs)
theorem Tvs.split {H : Hp} : ∀ {ss ts : List Thg} {vs : List V}, Tvs H vs (ss ++ ts) → ∃ us ws, vs = us ++ ws ∧ Tvs H us ss ∧ Tvs H ws ts
  | [], _, vs, h => ⟨[], vs, rfl, .nil, h⟩
  | s :: ss, ts, _, .cons h hs => by
    obtain ⟨us, ws, e, h1, h2⟩ := Tvs.split (ss := ss) hs
    exact ⟨_ :: us, ws, by rw [e]; rfl, .cons h h1, h2⟩
theorem Tvs.get {H : Hp} : ∀ {vs : List V} {ts : List Thg} {i : Nat} {t : Thg}, Tvs H vs ts → ts[i]? = some t → ∃ v, vs[i]? = some v ∧ Tv H v t
  | _, _, i, t, .nil, e => by simp at e
  | _, _, 0, t, .cons h hs, e => by
    simp at e
    subst e
    exact ⟨_, by simp, h⟩
  | _, _, i + 1, t, .cons h hs, e => by
    obtain ⟨v, h1, h2⟩ := Tvs.get (i := i) hs (by simpa using e)
    exact ⟨v, by simpa using h1, h2⟩
/-- ("?", ..), ("~", ..): nothing within -/
def Thg.leafy (h : Str) : Bool := decide (h = "?") || decide (h = "~")
def Thg.kids : Thg → List Thg
  | .node h xs => if Thg.leafy h then [] else xs
  | _ => []
def Thg.isO : Thg → Bool
  | .node h _ => decide (h = "?")
  | _ => false
mutual
def Thg.pre : Thg → List Thg
  | .num i => [.num i]
  | .word s => [.word s]
  | .node h xs => .node h xs :: (if Thg.leafy h then [] else Thg.preL xs)
def Thg.preL : List Thg → List Thg
  | [] => []
  | x :: xs => Thg.pre x ++ Thg.preL xs
end
theorem Thg.pre_eq (t : Thg) : t.pre = t :: Thg.preL t.kids := by
  cases t with
  | num i => simp [Thg.pre, Thg.kids, Thg.preL]
  | word s => simp [Thg.pre, Thg.kids, Thg.preL]
  | node h xs =>
    simp only [Thg.pre, Thg.kids]
    split <;> simp [Thg.preL]
theorem Thg.preL_app : ∀ (xs ys : List Thg), Thg.preL (xs ++ ys) = Thg.preL xs ++ Thg.preL ys
  | [], _ => rfl
  | x :: xs, ys => by
    show Thg.pre x ++ Thg.preL (xs ++ ys) = _
    rw [Thg.preL_app xs ys, Thg.preL, List.append_assoc]
theorem Thg.preL_cons (t : Thg) (ts : List Thg) : Thg.preL (t :: ts) = t :: Thg.preL (t.kids ++ ts) := by
  rw [Thg.preL, Thg.pre_eq, Thg.preL_app]
  rfl
mutual
/-- unknowns have given way -/
def Thg.sub (f : Int → Option Thg) : Thg → Thg
  | .num i => .num i
  | .word s => .word s
  | .node h xs => if h = "?" then (match xs with
      | [.num n] => (f n).getD (.node h xs)
      | _ => .node h xs) else if h = "~" then .node h xs else .node h (Thg.subL f xs)
def Thg.subL (f : Int → Option Thg) : List Thg → List Thg
  | [] => []
  | x :: xs => Thg.sub f x :: Thg.subL f xs
end
/-- each unknown has a number -/
def Thg.okO : Thg → Prop
  | .node h xs => h = "?" → ∃ n, xs = [.num n]
  | _ => True
theorem Thg.subL_app (f : Int → Option Thg) : ∀ (xs ys : List Thg), Thg.subL f (xs ++ ys) = Thg.subL f xs ++ Thg.subL f ys
  | [], _ => rfl
  | x :: xs, ys => by
    show Thg.sub f x :: Thg.subL f (xs ++ ys) = _
    rw [Thg.subL_app f xs ys]
    rfl
theorem Thg.subL_len (f : Int → Option Thg) : ∀ (xs : List Thg), (Thg.subL f xs).length = xs.length
  | [] => rfl
  | x :: xs => congrArg (· + 1) (Thg.subL_len f xs)
/-- a part with these things within it -/
def Thg.headed : Thg → List Thg → Thg
  | t, [] => t
  | .node h _, ts => .node h ts
  | t, _ => t
theorem Thg.headed_sub (f : Int → Option Thg) {t : Thg} (ho : t.isO = false) : t.headed (Thg.subL f t.kids) = Thg.sub f t := by
  cases t with
  | num i => rfl
  | word s => rfl
  | node h xs =>
    have h1 : ¬ h = "?" := by simpa [Thg.isO] using ho
    by_cases h2 : h = "~"
    · subst h2
      simp [Thg.kids, Thg.leafy, Thg.subL, Thg.headed, Thg.sub, h1]
    · have hl : Thg.leafy h = false := by simp [Thg.leafy, h1, h2]
      simp only [Thg.kids, hl, Thg.sub, h1, h2, if_false]
      cases xs with
      | nil => rfl
      | cons x xs => rfl
/-- a forest with its first tree's head gone -/
def Thg.step : List Thg → List Thg
  | [] => []
  | t :: ts => t.kids ++ ts
theorem Thg.preL_step (ts : List Thg) : Thg.preL (Thg.step ts) = (Thg.preL ts).drop 1 := by
  cases ts with
  | nil => rfl
  | cons t ts =>
    rw [Thg.preL_cons]
    rfl
def Thg.steps (ts : List Thg) : Nat → List Thg
  | 0 => ts
  | n + 1 => Thg.step (Thg.steps ts n)
theorem Thg.preL_steps (ts : List Thg) : ∀ n, Thg.preL (Thg.steps ts n) = (Thg.preL ts).drop n
  | 0 => rfl
  | n + 1 => by
    show Thg.preL (Thg.step (Thg.steps ts n)) = _
    rw [Thg.preL_step, Thg.preL_steps ts n, List.drop_drop]
theorem Thg.preL_nil {ts : List Thg} (h : Thg.preL ts = []) : ts = [] := by
  cases ts with
  | nil => rfl
  | cons t ts =>
    rw [Thg.preL_cons] at h
    cases h
/-- where the n-th part stands: it is the first of a forest -/
theorem Thg.at_ {ts : List Thg} {n : Nat} {t : Thg} (h : (Thg.preL ts)[n]? = some t) : ∃ rest, Thg.steps ts n = t :: rest ∧ Thg.steps ts (n + 1) = t.kids ++ rest := by
  have e := Thg.preL_steps ts n
  cases hs : Thg.steps ts n with
  | nil =>
    rw [hs] at e
    have e : ([] : List Thg) = (Thg.preL ts).drop n := e
    have : (Thg.preL ts).length ≤ n := List.drop_eq_nil_iff.mp e.symm
    rw [List.getElem?_eq_none this] at h
    cases h
  | cons t' rest =>
    rw [hs, Thg.preL_cons] at e
    have h2 : ((Thg.preL ts).drop n)[0]? = some t := by rw [List.getElem?_drop]; exact h
    rw [← e] at h2
    simp at h2
    subst h2
    exact ⟨rest, rfl, by show Thg.step (Thg.steps ts n) = _; rw [hs]; rfl⟩
end LL
set_option maxHeartbeats 0
namespace K10
open PySem PySem.Spec PyProof.Rows L2
abbrev P0 : Program := PySem.Challenge.pw_nearestkinds_k10_whole_neat
def top (i : Nat) : Stmt := P0.main.body.getD i (.Pass ⟨0, 0, 0, 0⟩)
end K10
set_option maxHeartbeats 4000000
/-! Things that are right; what a part is but for the things within; pairs. -/
namespace LL
open PySem PySem.Spec PyProof.Rows L2 Evl
mutual
def Thg.Wf : Thg → Prop
  | .num _ => True
  | .word s => PyData.strOk s = true
  | .node h xs => PyData.strOk h = true ∧ (Thg.leafy h = true → ∃ n, xs = [.num n]) ∧ Thg.WfL xs
def Thg.WfL : List Thg → Prop
  | [] => True
  | x :: xs => x.Wf ∧ Thg.WfL xs
end
theorem Thg.Wf.okO {t : Thg} (h : t.Wf) : t.okO := by
  cases t with
  | num _ => exact trivial
  | word _ => exact trivial
  | node hd xs =>
    intro e
    exact h.2.1 (by rw [e]; decide)
theorem Thg.Wf.kids {t : Thg} (h : t.Wf) : Thg.WfL t.kids := by
  cases t with
  | num _ => exact trivial
  | word _ => exact trivial
  | node hd xs =>
    simp only [Thg.kids]
    split
    · exact trivial
    · exact h.2.2
theorem Thg.WfL.mem {ts : List Thg} (h : Thg.WfL ts) : ∀ t ∈ ts, t.Wf := by
  induction ts with
  | nil => intro t ht; cases ht
  | cons x xs ih =>
    intro t ht
    rcases List.mem_cons.mp ht with e | e
    · rw [e]; exact h.1
    · exact ih h.2 t e
def Thg.rootD : Thg → PyData
  | .num i => .int i
  | .word s => .str s
  | .node h xs => if Thg.leafy h then .tuple [.str h, (match xs with
      | [.num n] => .int n
      | _ => .none)] else .tuple [.str h, .int (xs.length : Nat)]
theorem Thg.root_shaped {t : Thg} (h : t.Wf) : SeqAt.shaped t.rootD = true := by
  cases t with
  | num i => simp [Thg.rootD, SeqAt.shaped, PyData.canLay0, PyData.depth]
  | word s =>
    have h : PyData.strOk s = true := h
    simp [Thg.rootD, SeqAt.shaped, PyData.canLay0, PyData.depth, h]
  | node hd xs =>
    obtain ⟨h1, h2, _⟩ := h
    simp only [Thg.rootD]
    split
    · rename_i hl
      obtain ⟨n, rfl⟩ := h2 hl
      simp [SeqAt.shaped, PyData.canLay0, PyData.canLayAll0, PyData.depth, PyData.depthAll, h1]
    · simp [SeqAt.shaped, PyData.canLay0, PyData.canLayAll0, PyData.depth, PyData.depthAll, h1]
theorem Thg.root_leafy {h : Str} {xs : List Thg} {n : Int} (hl : Thg.leafy h = true) (e : xs = [.num n]) : (Thg.node h xs).rootD = .tuple [.str h, .int n] := by
  subst e
  simp only [Thg.rootD, hl, if_true]
theorem Thg.root_node {h : Str} {xs : List Thg} (hl : Thg.leafy h = false) : (Thg.node h xs).rootD = .tuple [.str h, .int (xs.length : Nat)] := by
  simp only [Thg.rootD, hl, Bool.false_eq_true, if_false]
theorem Thg.root_tup {h : Str} {xs : List Thg} (w : (Thg.node h xs).Wf) : ∃ i, (Thg.node h xs).rootD = .tuple [.str h, .int i] := by
  cases hl : Thg.leafy h with
  | true =>
    obtain ⟨n, e⟩ := w.2.1 hl
    exact ⟨n, Thg.root_leafy hl e⟩
  | false => exact ⟨_, Thg.root_node hl⟩
theorem eqv_pair {h k : Str} {i j : Int} (e : PyData.eqv (.tuple [.str h, .int i]) (.tuple [.str k, .int j]) = true) : h = k ∧ i = j := by
  simpa [PyData.eqv, PyData.eqvAll] using e
/-- parts of equal roots: equal if the things within are -/
theorem Thg.root_eq {a b : Thg} (ha : a.Wf) (hb : b.Wf) (h : PyData.eqv a.rootD b.rootD = true) : a.kids.length = b.kids.length ∧ (a.kids = b.kids → a = b) ∧ a.isO = b.isO := by
  cases a with
  | num i =>
    cases b with
    | num j =>
      have e : i = j := by simpa [Thg.rootD, PyData.eqv] using h
      rw [e]
      exact ⟨rfl, fun _ => rfl, rfl⟩
    | word s => simp [Thg.rootD, PyData.eqv] at h
    | node k ys =>
      obtain ⟨n, e⟩ := Thg.root_tup hb
      rw [e] at h
      simp [Thg.rootD, PyData.eqv] at h
  | word s =>
    cases b with
    | num j => simp [Thg.rootD, PyData.eqv] at h
    | word z =>
      have e : s = z := by simpa [Thg.rootD, PyData.eqv] using h
      rw [e]
      exact ⟨rfl, fun _ => rfl, rfl⟩
    | node k ys =>
      obtain ⟨n, e⟩ := Thg.root_tup hb
      rw [e] at h
      simp [Thg.rootD, PyData.eqv] at h
  | node k xs =>
    cases b with
    | num j =>
      obtain ⟨n, e⟩ := Thg.root_tup ha
      rw [e] at h
      simp [Thg.rootD, PyData.eqv] at h
    | word z =>
      obtain ⟨n, e⟩ := Thg.root_tup ha
      rw [e] at h
      simp [Thg.rootD, PyData.eqv] at h
    | node l ys =>
      obtain ⟨n, e1⟩ := Thg.root_tup ha
      obtain ⟨m, e2⟩ := Thg.root_tup hb
      have h2 := h
      rw [e1, e2] at h2
      obtain ⟨e3, _⟩ := eqv_pair h2
      rw [← e3] at h hb ⊢
      cases hl : Thg.leafy k with
      | true =>
        obtain ⟨n', f1⟩ := ha.2.1 hl
        obtain ⟨m', f2⟩ := hb.2.1 hl
        rw [Thg.root_leafy hl f1, Thg.root_leafy hl f2] at h
        obtain ⟨_, e4⟩ := eqv_pair h
        rw [f1, f2, e4]
        exact ⟨rfl, fun _ => rfl, rfl⟩
      | false =>
        rw [Thg.root_node hl, Thg.root_node hl] at h
        obtain ⟨_, e4⟩ := eqv_pair h
        have k1 : ∀ zs, (Thg.node k zs).kids = zs := fun zs => by simp [Thg.kids, hl]
        rw [k1, k1]
        exact ⟨by omega, fun e => by rw [e], rfl⟩
theorem Thg.root_ne {a b : Thg} (ha : a.Wf) (h : PyData.eqv a.rootD b.rootD = false) : a ≠ b := fun e => by
  subst e
  have hs := Thg.root_shaped ha
  have hc : a.rootD.canLay0 = true := by
    unfold SeqAt.shaped at hs
    exact (Bool.and_eq_true_iff.mp hs).1
  rw [SeqAt.eqv_refl _ hc] at h
  cases h
inductive Prs (H : Hp) : List V → List (Thg × Thg) → Prop
  | nil : Prs H [] []
  | cons {T : Addr} {x y : V} {a b : Thg} {vs : List V} {ps : List (Thg × Thg)} (e : H T = some (.tup [x, y])) (hx : Tv H x a) (hy : Tv H y b) (hs : Prs H vs ps) : Prs H (.ref T :: vs) ((a, b) :: ps)
theorem Prs.mono {H H' : Hp} (e : TupEx H H') {vs : List V} {ps : List (Thg × Thg)} (h : Prs H vs ps) : Prs H' vs ps := by
  induction h with
  | nil => exact .nil
  | cons e0 hx hy _ ih => exact .cons (e _ _ e0) (hx.mono e) (hy.mono e) ih
theorem Prs.len {H : Hp} {vs : List V} {ps : List (Thg × Thg)} (h : Prs H vs ps) : vs.length = ps.length := by
  induction h with
  | nil => rfl
  | cons _ _ _ _ ih => exact congrArg (· + 1) ih
theorem Prs.app {H : Hp} {us : List V} {qs : List (Thg × Thg)} (k : Prs H us qs) {vs : List V} {ps : List (Thg × Thg)} (h : Prs H vs ps) : Prs H (vs ++ us) (ps ++ qs) := by
  induction h with
  | nil => exact k
  | cons e hx hy _ ih => exact .cons e hx hy ih
theorem Prs.split {H : Hp} : ∀ {ps qs : List (Thg × Thg)} {vs : List V}, Prs H vs (ps ++ qs) → ∃ us ws, vs = us ++ ws ∧ Prs H us ps ∧ Prs H ws qs
  | [], _, vs, h => ⟨[], vs, rfl, .nil, h⟩
  | p :: ps, qs, _, .cons e hx hy hs => by
    obtain ⟨us, ws, e1, h1, h2⟩ := Prs.split (ps := ps) hs
    exact ⟨_ :: us, ws, by rw [e1]; rfl, .cons e hx hy h1, h2⟩
/-- the pairs of a zip -/
theorem Prs.zip {H : Hp} : ∀ {Ts : List Addr} {xs ys : List V} {as bs : List Thg}, Tvs H xs as → Tvs H ys bs → Ts.length = min xs.length ys.length →
    (∀ (i : Nat) (T : Addr), Ts[i]? = some T → ∃ x y, xs[i]? = some x ∧ ys[i]? = some y ∧ H T = some (.tup [x, y])) → Prs H (Ts.map V.ref) (as.zip bs)
  | [], _, _, _, _, .nil, _, _, _ => .nil
  | [], _, _, _, _, .cons _ _, .nil, _, _ => .nil
  | [], _, _, _, _, .cons _ _, .cons _ _, h, _ => by simp at h
  | T :: Ts, _, _, _, _, .nil, _, h, _ => by simp at h
  | T :: Ts, _, _, _, _, .cons _ _, .nil, h, _ => by simp at h
  | T :: Ts, _, _, _, _, .cons h1 h2, .cons k1 k2, h, g => by
    obtain ⟨x, y, e1, e2, e3⟩ := g 0 T rfl
    simp at e1 e2
    subst e1 e2
    refine .cons e3 h1 k1 (Prs.zip h2 k2 (by simp at h; omega) fun i T' hi => ?_)
    obtain ⟨x', y', f1, f2, f3⟩ := g (i + 1) T' (by simpa using hi)
    exact ⟨x', y', by simpa using f1, by simpa using f2, f3⟩
/-- the weight of pairs -/
def wtP (ps : List (Thg × Thg)) : Nat := (ps.map fun p => p.1.pre.length).sum
theorem wtP_app (ps qs : List (Thg × Thg)) : wtP (ps ++ qs) = wtP ps + wtP qs := by
  unfold wtP
  rw [List.map_append, List.sum_append]
theorem wtP_rev (ps : List (Thg × Thg)) : wtP ps.reverse = wtP ps := by
  induction ps with
  | nil => rfl
  | cons p ps ih =>
    rw [List.reverse_cons, wtP_app, ih]
    unfold wtP
    simp
    omega
theorem preL_sum : ∀ ts : List Thg, (Thg.preL ts).length = (ts.map fun t => t.pre.length).sum
  | [] => rfl
  | t :: ts => by
    show (Thg.pre t ++ Thg.preL ts).length = _
    rw [List.length_append, preL_sum ts]
    rfl
theorem wtP_zip : ∀ (as bs : List Thg), wtP (as.zip bs) ≤ (Thg.preL as).length
  | [], _ => by simp [wtP]
  | a :: as, [] => by simp [wtP]
  | a :: as, b :: bs => by
    have := wtP_zip as bs
    show a.pre.length + wtP (as.zip bs) ≤ (Thg.pre a ++ Thg.preL as).length
    rw [List.length_append]
    omega
theorem wtP_len (ps : List (Thg × Thg)) : ps.length ≤ wtP ps := by
  induction ps with
  | nil => exact Nat.zero_le _
  | cons p ps ih =>
    show ps.length + 1 ≤ p.1.pre.length + wtP ps
    rw [Thg.pre_eq, List.length_cons]
    omega
theorem zip_all {as bs : List Thg} (h : as.length = bs.length) : as = bs ↔ ∀ p ∈ as.zip bs, p.1 = p.2 := by
  induction as generalizing bs with
  | nil =>
    cases bs with
    | nil => simp
    | cons _ _ => simp at h
  | cons a as ih =>
    cases bs with
    | nil => simp at h
    | cons b bs =>
      simp at h
      simp [ih h]
end LL
set_option maxHeartbeats 4000000
/-! What a thing becomes when all unknowns give way; its unknowns. -/
namespace LL
open PySem PySem.Spec PyProof.Rows L2 Evl
abbrev all_ (G : Int → Thg) : Int → Option Thg := fun n => some (G n)
theorem Thg.sub_open (G : Int → Thg) (n : Int) : Thg.sub (all_ G) (.node "?" [.num n]) = G n := by simp [Thg.sub]
/-- the number of an unknown -/
def Thg.unk : Thg → Option Int
  | .node h [.num n] => if h = "?" then some n else none
  | _ => none
/-- the unknowns' numbers -/
def Thg.unkL (ts : List Thg) : List Int := (Thg.preL ts).filterMap Thg.unk
theorem Thg.unkL_app (xs ys : List Thg) : Thg.unkL (xs ++ ys) = Thg.unkL xs ++ Thg.unkL ys := by
  unfold Thg.unkL
  rw [Thg.preL_app, List.filterMap_append]
theorem Thg.unkL_one (t : Thg) : Thg.unkL [t] = (match t.unk with
    | some n => [n]
    | none => []) ++ Thg.unkL t.kids := by
  unfold Thg.unkL
  rw [Thg.preL_cons, List.append_nil, List.filterMap_cons]
  cases t.unk <;> rfl
theorem Thg.unk_closed {t : Thg} (h : t.isO = false) : t.unk = none := by
  cases t with
  | num _ => rfl
  | word _ => rfl
  | node k xs =>
    have hk : ¬ k = "?" := by simpa [Thg.isO] using h
    cases xs with
    | nil => rfl
    | cons x xs =>
      cases x with
      | num n =>
        cases xs with
        | nil => simp [Thg.unk, hk]
        | cons _ _ => rfl
      | word _ => rfl
      | node _ _ => rfl
theorem Thg.mem_unkL_cons {t : Thg} {ts : List Thg} {n : Int} : n ∈ Thg.unkL (t :: ts) ↔ n ∈ Thg.unkL [t] ∨ n ∈ Thg.unkL ts := by
  have e : t :: ts = [t] ++ ts := rfl
  rw [e, Thg.unkL_app, List.mem_append]
/-- unknowns of the first ones of pairs -/
def unkP (S : List (Thg × Thg)) : List Int := Thg.unkL (S.map (·.1))
theorem unkP_app (S R : List (Thg × Thg)) : unkP (S ++ R) = unkP S ++ unkP R := by
  unfold unkP
  rw [List.map_append, Thg.unkL_app]
theorem unkP_zip {as bs : List Thg} (h : as.length = bs.length) : unkP (as.zip bs) = Thg.unkL as := by
  unfold unkP
  rw [List.map_fst_zip (by omega)]
theorem wtP_zip_eq {as bs : List Thg} (h : as.length = bs.length) : wtP (as.zip bs) = (Thg.preL as).length := by
  unfold wtP
  rw [preL_sum, show ((as.zip bs).map fun p => p.1.pre.length) = (((as.zip bs).map (·.1)).map fun t => t.pre.length) by rw [List.map_map]; rfl, List.map_fst_zip (by omega)]
theorem zip_sub {f : Int → Option Thg} {as bs : List Thg} (h : as.length = bs.length) : Thg.subL f as = bs ↔ ∀ p ∈ as.zip bs, Thg.sub f p.1 = p.2 := by
  induction as generalizing bs with
  | nil =>
    cases bs with
    | nil => simp [Thg.subL]
    | cons _ _ => simp at h
  | cons a as ih =>
    cases bs with
    | nil => simp at h
    | cons b bs =>
      simp at h
      simp [Thg.subL, ih h]
/-- two closed parts of one root: the one becomes the other if the things within do -/
theorem Thg.sub_root (f : Int → Option Thg) {c d : Thg} (wc : c.Wf) (wd : d.Wf) (ho : c.isO = false) (h : PyData.eqv c.rootD d.rootD = true) : Thg.sub f c = d ↔ ∀ p ∈ c.kids.zip d.kids, Thg.sub f p.1 = p.2 := by
  obtain ⟨r1, r2, r3⟩ := Thg.root_eq wc wd h
  have same : c.kids = [] → (Thg.sub f c = d ↔ ∀ p ∈ c.kids.zip d.kids, Thg.sub f p.1 = p.2) := fun e => by
    have ed : d.kids = [] := by
      rw [e] at r1
      exact List.eq_nil_of_length_eq_zero r1.symm
    have cd := r2 (by rw [e, ed])
    have hs := Thg.headed_sub f ho
    rw [e] at hs
    have hh : c.headed [] = c := by cases c <;> rfl
    have hs : c.headed [] = Thg.sub f c := hs
    rw [← hs, hh, e]
    simp [cd]
  cases c with
  | num _ => exact same rfl
  | word _ => exact same rfl
  | node k xs =>
    cases hl : Thg.leafy k with
    | true => exact same (by simp [Thg.kids, hl])
    | false =>
      have k1 : ∀ zs, (Thg.node k zs).kids = zs := fun zs => by simp [Thg.kids, hl]
      cases d with
      | num j =>
        rw [Thg.root_node hl] at h
        simp [Thg.rootD, PyData.eqv] at h
      | word j =>
        rw [Thg.root_node hl] at h
        simp [Thg.rootD, PyData.eqv] at h
      | node l ys =>
        obtain ⟨m, e2⟩ := Thg.root_tup wd
        rw [Thg.root_node hl, e2] at h
        obtain ⟨e3, _⟩ := eqv_pair h
        rw [← e3] at r1 ⊢
        rw [k1, k1] at r1
        rw [k1, k1, ← zip_sub r1]
        have n1 : ¬ k = "?" := by simpa [Thg.isO] using ho
        have n2 : ¬ k = "~" := fun e => by rw [e] at hl; exact absurd hl (by decide)
        have es : Thg.sub f (.node k xs) = .node k (Thg.subL f xs) := by simp only [Thg.sub, n1, n2, if_false]
        rw [es]
        exact ⟨fun e => by cases e; rfl, fun e => by rw [e]⟩
/-- a closed part keeps its root -/
theorem Thg.sub_rootD (f : Int → Option Thg) {c : Thg} (ho : c.isO = false) : (Thg.sub f c).rootD = c.rootD := by
  cases c with
  | num _ => rfl
  | word _ => rfl
  | node k xs =>
    have n1 : ¬ k = "?" := by simpa [Thg.isO] using ho
    by_cases n2 : k = "~"
    · have es : Thg.sub f (.node k xs) = .node k xs := by simp only [Thg.sub]; rw [if_neg n1, if_pos n2]
      rw [es]
    · have hl : Thg.leafy k = false := by simp [Thg.leafy, n1, n2]
      have es : Thg.sub f (.node k xs) = .node k (Thg.subL f xs) := by simp only [Thg.sub, n1, n2, if_false]
      rw [es, Thg.root_node hl, Thg.root_node hl, Thg.subL_len]
theorem Thg.sub_ne (f : Int → Option Thg) {c d : Thg} (wc : c.Wf) (ho : c.isO = false) (h : PyData.eqv c.rootD d.rootD = false) : Thg.sub f c ≠ d := fun e => by
  rw [← e, Thg.sub_rootD f ho] at h
  have hs := Thg.root_shaped wc
  have hc : c.rootD.canLay0 = true := by
    unfold SeqAt.shaped at hs
    exact (Bool.and_eq_true_iff.mp hs).1
  rw [SeqAt.eqv_refl _ hc] at h
  cases h
/-- a dict whose keys are unlike numbers -/
def KeyI (kvs : List (Key × V)) : Prop := (kvs.map (·.1)).Nodup ∧ ∀ p ∈ kvs, ∃ n, p.1 = Sum.inl n
theorem valV_none {kvs : List (Key × V)} {k : Key} (h : valV kvs k = none) : k ∉ kvs.map (·.1) := fun hm => by
  obtain ⟨p, hp, e⟩ := List.mem_map.mp hm
  unfold valV at h
  rw [Option.map_eq_none_iff, List.find?_eq_none] at h
  exact h p hp (by simp [e])
theorem putK_new {kvs : List (Key × V)} {k : Key} {v : V} (h : valV kvs k = none) : putK kvs k v = kvs ++ [(k, v)] := by
  unfold putK
  rw [if_neg]
  intro z
  obtain ⟨p, hp, e⟩ := List.any_eq_true.mp z
  exact valV_none h (List.mem_map.mpr ⟨p, hp, of_decide_eq_true e⟩)
theorem KeyI.put {kvs : List (Key × V)} {n : Int} {v : V} (h : KeyI kvs) (hn : valV kvs (.inl n) = none) : KeyI (putK kvs (.inl n) v) := by
  rw [putK_new hn]
  refine ⟨?_, fun p hp => ?_⟩
  · rw [List.map_append, List.nodup_append]
    refine ⟨h.1, by simp, fun a ha b hb e => ?_⟩
    rw [List.map_cons, List.map_nil, List.mem_singleton] at hb
    rw [e, hb] at ha
    exact valV_none hn ha
  · rcases List.mem_append.mp hp with q | q
    · exact h.2 p q
    · rw [List.mem_singleton.mp q]
      exact ⟨n, rfl⟩
theorem valV_put {kvs : List (Key × V)} {n : Int} {v : V} (hn : valV kvs (.inl n) = none) (m : Int) : valV (putK kvs (.inl n) v) (.inl m) = if m = n then some v else valV kvs (.inl m) := by
  rw [putK_new hn]
  unfold valV at hn ⊢
  rw [List.find?_append]
  by_cases e : m = n
  · subst e
    rw [if_pos rfl]
    have : kvs.find? (fun kv => decide (kv.1 = (Sum.inl m : Key))) = none := by simpa using hn
    rw [this]
    simp
  · rw [if_neg e]
    cases hf : kvs.find? (fun kv => decide (kv.1 = (Sum.inl m : Key))) with
    | some q => rfl
    | none =>
      have : ¬ (Sum.inl n : Key) = Sum.inl m := fun z => e (Sum.inl.inj z).symm
      simp [this]
end LL
set_option maxHeartbeats 4000000
/-! Readings told by what is true of what they come to. -/
namespace LL
open PySem PySem.Spec PyProof.Rows L2 Evl
abbrev VP := V → Hp → Prop
def Mon (R : VP) : Prop := ∀ v H H', Ex H H' → R v H → R v H'
def EvX (te : TE) (σ : L2.St) (H : Hp) (R : VP) : Prop := ∀ H1, Ex H H1 → ∀ Q : VK, (∀ v H2, Ex H1 H2 → R v H2 → Q v H2) → te σ H1 Q
abbrev All2 (Rs : List VP) (vs : List V) (H : Hp) : Prop := Paired (fun (R : VP) v => R v H) Rs vs
def EvXA (ta : TA) (σ : L2.St) (H : Hp) (Rs : List VP) : Prop := ∀ H1, Ex H H1 → ∀ Q : List V → Hp → Prop, (∀ vs H2, Ex H1 H2 → All2 Rs vs H2 → Q vs H2) → ta σ H1 Q
def Mons (Rs : List VP) : Prop := ∀ R ∈ Rs, Mon R
theorem All2.mono {Rs : List VP} (m : Mons Rs) {vs : List V} {H H' : Hp} (e : Ex H H') (h : All2 Rs vs H) : All2 Rs vs H' := by
  induction h with
  | nil => exact .nil
  | cons a b ih => exact .cons (m _ List.mem_cons_self _ _ _ e a) (ih fun R hR => m R (List.mem_cons_of_mem _ hR))
theorem All2.app {Rs Ss : List VP} {H : Hp} {vs us : List V} (h : All2 Rs vs H) (k : All2 Ss us H) : All2 (Rs ++ Ss) (vs ++ us) H := by
  induction h with
  | nil => exact k
  | cons a b ih => exact .cons a ih
theorem All2.len {Rs : List VP} {vs : List V} {H : Hp} (h : All2 Rs vs H) : Rs.length = vs.length := Paired.length h
def LstOf (Rs : List VP) : VP := fun v H => ∃ p vs, v = .ref p ∧ H p = some (.lst vs) ∧ All2 Rs vs H
def TupOf (Rs : List VP) : VP := fun v H => ∃ p vs, v = .ref p ∧ H p = some (.tup vs) ∧ All2 Rs vs H
theorem LstOf.mon {Rs : List VP} (m : Mons Rs) : Mon (LstOf Rs) := fun v H H' e ⟨p, vs, h1, h2, h3⟩ => ⟨p, vs, h1, e _ _ h2, h3.mono m e⟩
theorem TupOf.mon {Rs : List VP} (m : Mons Rs) : Mon (TupOf Rs) := fun v H H' e ⟨p, vs, h1, h2, h3⟩ => ⟨p, vs, h1, e _ _ h2, h3.mono m e⟩
theorem mons_nil : Mons [] := fun _ h => nomatch h
theorem mons_cons {R : VP} {Rs : List VP} (h : Mon R) (hs : Mons Rs) : Mons (R :: Rs) := fun S hS => by
  rcases List.mem_cons.mp hS with e | e
  · rw [e]; exact h
  · exact hs S e
section
variable {K : PySem.W.Frag} {σ : L2.St} {H : Hp} {te ta tb tl : TE} {tr : TA} {R S : VP} {Rs Ss : List VP} {D : Ends} {tz : TS} {v : V} {j : Nat} {vs : List Nat}
theorem x_of (h : Ev te σ H v) : EvX te σ H (fun u _ => u = v) := fun H1 e Q q => h H1 e Q fun H2 e2 => q v H2 e2 rfl
theorem x_imp (h : EvX te σ H R) (k : ∀ v H', Ex H H' → R v H' → S v H') : EvX te σ H S := fun H1 e Q q => h H1 e Q fun v H2 e2 r => q v H2 e2 (k v H2 (e.trans e2) r)
theorem xa_nil : EvXA tNil σ H [] := fun H1 _ Q q => q [] H1 (Ex.refl H1) .nil
theorem xa_cons (m : Mon R) (h : EvX te σ H R) (hs : EvXA tr σ H Rs) : EvXA (tCons te tr) σ H (R :: Rs) := fun H1 e Q q =>
  h H1 e _ fun v H2 e2 r => hs H2 (e.trans e2) _ fun vs H3 e3 rs => q (v :: vs) H3 (e2.trans e3) (.cons (m _ _ _ e3 r) rs)
theorem x_lst (m : Mons Rs) (hl : Rs.length ≤ 100000) (h : EvXA tr σ H Rs) : EvX (tLst tr) σ H (LstOf Rs) := fun H1 e Q q =>
  h H1 e _ fun vs H2 e2 rs => ⟨sz_of (by rw [← rs.len]; exact hl), fun p hp => q _ _ (e2.trans (Ex.new hp)) ⟨p, vs, rfl, upd_same, rs.mono m (Ex.new hp)⟩⟩
theorem x_tup (m : Mons Rs) (hl : Rs.length ≤ 100000) (h : EvXA tr σ H Rs) : EvX (tTup tr) σ H (TupOf Rs) := fun H1 e Q q =>
  h H1 e _ fun vs H2 e2 rs => ⟨sz_of (by rw [← rs.len]; exact hl), fun p hp => q _ _ (e2.trans (Ex.new hp)) ⟨p, vs, rfl, upd_same, rs.mono m (Ex.new hp)⟩⟩
theorem q_asgX {i : Nat} (h : EvX te σ H R) (k : ∀ v H1, Ex H H1 → R v H1 → tz D (σ.set i (some v)) H1) : tSeq (tAsg te (gName i)) tz D σ H := h H (Ex.refl H) _ k
theorem s_retX (h : EvX te σ H R) (k : ∀ v H1, Ex H H1 → R v H1 → D.rt v H1) : tRet te D σ H := h H (Ex.refl H) _ k
theorem x_var {i : Nat} (m : Mon R) (h : σ[i]? = some (some v)) (r : R v H) : EvX (tVar i) σ H R := fun H1 e Q q => ⟨v, h, q v H1 (Ex.refl H1) (m _ _ _ e r)⟩
def MonT (R : VP) : Prop := ∀ v H H', TupEx H H' → R v H → R v H'
theorem All2.monT {Rs : List VP} (m : ∀ R ∈ Rs, MonT R) {vs : List V} {H H' : Hp} (e : TupEx H H') (h : All2 Rs vs H) : All2 Rs vs H' := by
  induction h with
  | nil => exact .nil
  | cons a b ih => exact .cons (m _ List.mem_cons_self _ _ _ e a) (ih fun R hR => m R (List.mem_cons_of_mem _ hR))
/-- a new list, turn by turn -/
def Cx_ (H : Hp) (Rs : List VP) (Dl : Addr) (i : Nat) (H' : Hp) : Prop := H Dl = none ∧ Ex H H' ∧ ∃ ys, H' Dl = some (.lst ys) ∧ All2 (Rs.take i) ys H'
theorem cx_turn {H H' : Hp} {Dl : Addr} {i : Nat} {σ2 : L2.St} (m : ∀ R ∈ Rs, MonT R) (p : Cx_ H Rs Dl i H') (hi : i < 50000) (hR : Rs[i]? = some R) (he : EvX te σ2 H R) :
    (tYes σ2 H' fun b H3 => if b = true then te σ2 H3 fun y H4 => ∃ acc, H4 Dl = some (.lst acc) ∧ acc.length < sizeLine ∧ Cx_ H Rs Dl (i + 1) (upd H4 Dl (.lst (acc ++ [y]))) else Cx_ H Rs Dl (i + 1) H3) := by
  obtain ⟨p1, p2, ys, p3, p4⟩ := p
  show te σ2 H' fun y H4 => ∃ acc, H4 Dl = some (.lst acc) ∧ acc.length < sizeLine ∧ Cx_ H Rs Dl (i + 1) (upd H4 Dl (.lst (acc ++ [y])))
  have mt : ∀ S ∈ Rs.take i, MonT S := fun S hS => m S (List.mem_of_mem_take hS)
  refine he H' p2 _ fun y H4 e4 ry => ⟨ys, e4 _ _ p3, ?_, p1, Ex.mut (p2.trans e4) p1, ys ++ [y], upd_same, ?_⟩
  · have := p4.len
    rw [List.length_take] at this
    exact sz_lt (by omega)
  · have t2 : TupEx H4 (upd H4 Dl (.lst (ys ++ [y]))) := TupEx.lst (e4 _ _ p3)
    have e : Rs.take (i + 1) = Rs.take i ++ [R] := by rw [List.take_succ, hR]; rfl
    rw [e]
    exact All2.app (All2.monT mt ((TupEx.of e4).trans t2) p4) (.cons (m R (List.mem_of_getElem? hR) _ _ _ t2 ry) .nil)
/-- [e for x in t], t a tuple | a list -/
theorem x_lcT {a : Addr} {xs : List V} (m : ∀ R ∈ Rs, MonT R) (h : Ev tl σ H (.ref a)) (hx : SqT K H a xs) (hl : Rs.length = xs.length) (hz : xs.length ≤ 40000) (hw : ∀ x, wipe ((wipe σ vs).set j (some x)) vs = wipe σ vs)
    (he : ∀ (i : Nat) (x : V) (R : VP) H1, Ex H H1 → xs[i]? = some x → Rs[i]? = some R → EvX te ((wipe σ vs).set j (some x)) H1 R) : EvX (tLc (iTup K tl) (gName j) tYes te vs) σ H (LstOf Rs) := fun H0 e Q q => h H0 e _ fun H1 e1 => ⟨a, rfl, ⟨xs, ex_t (e.trans e1) hx⟩, fun Dl hD =>
  lc_it (walk_tup (xs := xs)) (Cx_ H1 Rs Dl) ⟨hD, Ex.new hD, [], upd_same, .nil⟩ (fun i H' _ pv => ex_t ((e.trans e1).trans pv.2.1) hx) (fun i x H' H'' hi pv y => by
    obtain ⟨rfl, hi2⟩ := y
    have hr : Rs[i]? = some Rs[i] := List.getElem?_eq_getElem (by omega)
    exact ⟨hw x, cx_turn m pv (by omega) hr (he i x _ H1 (e.trans e1) hi2 hr)⟩) (fun H' pv => by
    obtain ⟨p1, p2, ys, p3, p4⟩ := pv
    rw [← hl, List.take_length] at p4
    exact q _ H' (e1.trans p2) ⟨Dl, ys, rfl, p3, p4⟩)⟩
theorem x_lcL {a : Addr} {xs : List V} (m : ∀ R ∈ Rs, MonT R) (h : Ev tl σ H (.ref a)) (hx : SqL K H a xs) (hl : Rs.length = xs.length) (hz : xs.length ≤ 40000) (hw : ∀ x, wipe ((wipe σ vs).set j (some x)) vs = wipe σ vs)
    (he : ∀ (i : Nat) (x : V) (R : VP) H1, Ex H H1 → xs[i]? = some x → Rs[i]? = some R → EvX te ((wipe σ vs).set j (some x)) H1 R) : EvX (tLc (iList K tl) (gName j) tYes te vs) σ H (LstOf Rs) := fun H0 e Q q => h H0 e _ fun H1 e1 => ⟨a, rfl, ⟨xs, ex_l (e.trans e1) hx⟩, fun Dl hD =>
  lc_it (walk_list (xs := xs)) (Cx_ H1 Rs Dl) ⟨hD, Ex.new hD, [], upd_same, .nil⟩ (fun i H' _ pv => ex_l ((e.trans e1).trans pv.2.1) hx) (fun i x H' H'' hi pv y => by
    obtain ⟨rfl, hi2⟩ := y
    have hr : Rs[i]? = some Rs[i] := List.getElem?_eq_getElem (by omega)
    exact ⟨hw x, cx_turn m pv (by omega) hr (he i x _ H1 (e.trans e1) hi2 hr)⟩) (fun H' pv => by
    obtain ⟨p1, p2, ys, p3, p4⟩ := pv
    rw [← hl, List.take_length] at p4
    exact q _ H' (e1.trans p2) ⟨Dl, ys, rfl, p3, p4⟩)⟩
/-- over a new tuple -/
theorem x_lcU {xs : List V} (m : ∀ R ∈ Rs, MonT R) (h : EvU tl σ H xs) (hl : Rs.length = xs.length) (hz : xs.length ≤ 40000) (hw : ∀ x, wipe ((wipe σ vs).set j (some x)) vs = wipe σ vs)
    (he : ∀ (i : Nat) (x : V) (R : VP) H1, Ex H H1 → xs[i]? = some x → Rs[i]? = some R → EvX te ((wipe σ vs).set j (some x)) H1 R) : EvX (tLc (iTup K tl) (gName j) tYes te vs) σ H (LstOf Rs) := fun H0 e Q q => h H0 e _ fun a H1 ha e1 hx => ⟨a, rfl, ⟨xs, st_of hx⟩, fun Dl hD =>
  lc_it (walk_tup (xs := xs)) (Cx_ H1 Rs Dl) ⟨hD, Ex.new hD, [], upd_same, .nil⟩ (fun i H' _ pv => st_of (pv.2.1 _ _ hx)) (fun i x H' H'' hi pv y => by
    obtain ⟨rfl, hi2⟩ := y
    have hr : Rs[i]? = some Rs[i] := List.getElem?_eq_getElem (by omega)
    exact ⟨hw x, cx_turn m pv (by omega) hr (he i x _ H1 (e.trans e1) hi2 hr)⟩) (fun H' pv => by
    obtain ⟨p1, p2, ys, p3, p4⟩ := pv
    rw [← hl, List.take_length] at p4
    exact q _ H' (e1.trans p2) ⟨Dl, ys, rfl, p3, p4⟩)⟩
/-- things by what they are -/
abbrev IsT (t : Thg) : VP := fun v H => Tv H v t
theorem monT_tv {t : Thg} : MonT (IsT t) := fun _ _ _ e h => h.mono e
theorem tvs_all {ts : List Thg} {vs : List V} {H : Hp} (h : All2 (ts.map IsT) vs H) : Tvs H vs ts := by
  induction ts generalizing vs with
  | nil => cases h; exact .nil
  | cons t ts ih =>
    cases h with
    | cons a b => exact .cons a (ih b)
end
end LL
set_option maxHeartbeats 4000000
namespace LL
open PySem PySem.Spec PyProof.Rows L2 Evl
theorem pg_tupK {X : Cx} {K : PySem.W.Frag} {es : List Expr} {k : Nat} {t : TGs} {n : Nat} {pos : Pos} (hK : X.K = K) (hc : X.calm = true) (h : PGs X es t) (hn : (assignEach es X.env).length = n := by rfl) (hst : (assignEach es X.env).findIdx? (·.1) = none := by rfl) : PG X (.Tuple es k pos) (gTup K n t) := by
  subst hK
  exact pg_tup hc h hn hst
theorem ix_tupK {X : Cx} {K : PySem.W.Frag} (hK : X.K = K) : IxR X (rIxT K) := by
  subst hK
  exact ix_tup
theorem op_in_seqK {X : Cx} {K : PySem.W.Frag} (hK : X.K = K) : OpR X (compareOp .In) (rIn K false) := by
  subst hK
  exact op_in_seq
theorem op_catAK {X : Cx} {K : PySem.W.Frag} (hK : X.K = K) : OpR X (binaryOp .Add) (rCatA K) := by
  subst hK
  exact op_catA
theorem op_notIn_seqK {X : Cx} {K : PySem.W.Frag} (hK : X.K = K) : OpR X (compareOp .NotIn) (rIn K true) := by
  subst hK
  exact op_notIn_seq
section
variable {K : PySem.W.Frag} {σ : L2.St} {H : Hp} {ta tb : TE} {xs ys : List V} {tr : TA} {Rs : List VP}
theorem el_catN (h1 : EvL ta σ H xs) (h2 : EvL tb σ H ys) (hl : xs.length + ys.length ≤ 100000) : EvL (tOp rCat ta tb) σ H (xs ++ ys) := fun H1 e Q q =>
  h1 H1 e _ fun p H2 hp e2 h3 => h2 H2 (e.trans e2) _ fun r H3 hr e3 h4 => ⟨p, r, xs, ys, rfl, rfl, e3 _ _ h3, h4, sz_of hl, fun z hz => q z _ (fresh_back (e2.trans e3) hz) ((e2.trans e3).trans (Ex.new hz)) upd_same⟩
/-- a new list, told by relations -/
def LstN (H0 : Hp) (Rs : List VP) : VP := fun v H => ∃ p vs, v = .ref p ∧ H0 p = none ∧ H p = some (.lst vs) ∧ All2 Rs vs H
theorem x_lstN (m : Mons Rs) (hl : Rs.length ≤ 100000) (h : EvXA tr σ H Rs) : EvX (tLst tr) σ H (LstN H Rs) := fun H1 e Q q =>
  h H1 e _ fun vs H2 e2 rs => ⟨sz_of (by rw [← rs.len]; exact hl), fun p hp => q _ _ (e2.trans (Ex.new hp)) ⟨p, vs, rfl, fresh_back (e.trans e2) hp, upd_same, rs.mono m (Ex.new hp)⟩⟩
theorem if_and {t u : TT} {Q : VK} {b : Bool} (h : EvT t σ H b) (h1 : b = true → ∀ H1, Ex H H1 → tIf u ta tb σ H1 Q) (h2 : b = false → ∀ H1, Ex H H1 → tb σ H1 Q) : tIf (tAnd t u) ta tb σ H Q := h H (Ex.refl H) _ fun H1 e => by
  cases b with
  | true => exact h1 rfl H1 e
  | false => exact h2 rfl H1 e
theorem ifS_and {t u : TT} {su sw : TS} {D : Ends} {b : Bool} (h : EvT t σ H b) (h1 : b = true → ∀ H1, Ex H H1 → tIfS u su sw D σ H1) (h2 : b = false → ∀ H1, Ex H H1 → sw D σ H1) : tIfS (tAnd t u) su sw D σ H := h H (Ex.refl H) _ fun H1 e => by
  cases b with
  | true => exact h1 rfl H1 e
  | false => exact h2 rfl H1 e
theorem q_ifand {t u : TT} {su sw tz : TS} {D : Ends} {b : Bool} (h : EvT t σ H b) (h1 : b = true → ∀ H1, Ex H H1 → tSeq (tIfS u su sw) tz D σ H1) (h2 : b = false → ∀ H1, Ex H H1 → tSeq sw tz D σ H1) : tSeq (tIfS (tAnd t u) su sw) tz D σ H := ifS_and (D := { D with nx := tz D }) h h1 h2
theorem q_asgQ {te : TE} {i : Nat} {D : Ends} {tz : TS} (h : te σ H fun v H1 => tz D (σ.set i (some v)) H1) : tSeq (tAsg te (gName i)) tz D σ H := h
theorem s_asgQ {te : TE} {i : Nat} {D : Ends} (h : te σ H fun v H1 => D.nx (σ.set i (some v)) H1) : tAsg te (gName i) D σ H := h
theorem q_asgG {g : TG} {te : TE} {R : VP} {D : Ends} {tz : TS} (h : EvX te σ H R) (k : ∀ v H1, Ex H H1 → R v H1 → g v σ H1 fun σ' H' => tz D σ' H') : tSeq (tAsg te g) tz D σ H := h H (Ex.refl H) _ k
end
end LL
set_option maxHeartbeats 4000000
/-! Loops over what is told by relations. -/
namespace LL
open PySem PySem.Spec PyProof.Rows L2 Evl
theorem s_forJ {wi : TI} {g : TG} {tb : TS} {D : Ends} {σ : L2.St} {H : Hp} (h : wi σ H (fun J H1 => ∃ W : Nat → Nat → L2.St → Hp → Prop, (∃ m, W 0 m σ H1) ∧ ∀ i m σ H, W i m σ H → (J.stop i H ∧ D.nx σ H) ∨ (J.go i H ∧ ∃ N : L2.St → Hp → Prop, (∀ σ' H', N σ' H' → ∃ m', m' < m ∧ W (i + 1) m' σ' H') ∧ ∀ x H', J.yld i H x H' → g x σ H' fun σ2 H2 => tb { nx := N, rt := D.rt, bk := D.nx, ct := N } σ2 H2))) : tFor wi g tb D σ H := h
theorem q_forJ {wi : TI} {g : TG} {tb tz : TS} {D : Ends} {σ : L2.St} {H : Hp} (h : tFor wi g tb { D with nx := tz D } σ H) : tSeq (tFor wi g tb) tz D σ H := h
theorem iTupR {K : PySem.W.Frag} {σ : L2.St} {H : Hp} {tl : TE} {Rs : List VP} {R : It → Hp → Prop} (h : EvX tl σ H (TupOf Rs)) (k : ∀ p vs H1, Ex H H1 → H1 p = some (.tup vs) → All2 Rs vs H1 → R (Itt K p) H1) : iTup K tl σ H R :=
  h H (Ex.refl H) _ fun v H1 e ⟨p, vs, ev, hp, rs⟩ => ⟨p, ev, ⟨vs, st_of hp⟩, k p vs H1 e hp rs⟩
theorem iLstR {K : PySem.W.Frag} {σ : L2.St} {H : Hp} {tl : TE} {Rs : List VP} {R : It → Hp → Prop} (h : EvX tl σ H (LstN H Rs)) (k : ∀ p vs H1, Ex H H1 → H p = none → H1 p = some (.lst vs) → All2 Rs vs H1 → R (Itl K p) H1) : iList K tl σ H R :=
  h H (Ex.refl H) _ fun v H1 e ⟨p, vs, ev, hn, hp, rs⟩ => ⟨p, ev, ⟨vs, sq_of hp⟩, k p vs H1 e hn hp rs⟩
section
variable {K : PySem.W.Frag} {σ : L2.St} {H H1 : Hp} {J : It} {n : Nat} {G : Hp → Prop} {Y : Nat → Hp → V → Hp → Prop} {te : TE} {vs : List Nat} {j : Nat} {g : TG} {Dl : Addr} {Qd : Hp → Prop}
/-- a comprehension without a test, by an invariant over what it has so far -/
def NxL (Dl : Addr) (I : Nat → List V → Hp → Prop) (i : Nat) : V → Hp → Prop := fun y H4 => ∃ acc, H4 Dl = some (.lst acc) ∧ acc.length < sizeLine ∧ ∃ ys, ys.length = i + 1 ∧ L2.upd H4 Dl (.lst (acc ++ [y])) Dl = some (.lst ys) ∧ I (i + 1) ys (L2.upd H4 Dl (.lst (acc ++ [y])))
theorem NxL.of {I : Nat → List V → Hp → Prop} {i : Nat} {ys : List V} {y : V} (hl : ys.length = i) (hi : i < 50000) (q1 : H Dl = some (.lst ys)) (q2 : I (i + 1) (ys ++ [y]) (L2.upd H Dl (.lst (ys ++ [y])))) : NxL Dl I i y H :=
  ⟨ys, q1, sz_lt (by omega), ys ++ [y], by simp [hl], upd_same, q2⟩
theorem lcJ (w : Walk J n G Y) (I : Nat → List V → Hp → Prop) (h0 : I 0 [] (upd H1 Dl (.lst []))) (hG : ∀ i ys H, i ≤ n → I i ys H → G H)
    (hs : ∀ i x ys H H', i < n → ys.length = i → H Dl = some (.lst ys) → I i ys H → Y i H x H' → g x (wipe σ vs) H' fun σ2 H2 => wipe σ2 vs = wipe σ vs ∧ te σ2 H2 (NxL Dl I i)) (hd : ∀ ys H, ys.length = n → H Dl = some (.lst ys) → I n ys H → Qd H) :
    ∃ W : Nat → Nat → Hp → Prop, (∃ m, W 0 m (upd H1 Dl (.lst []))) ∧ ∀ i m H, W i m H →
      (J.stop i H ∧ Qd H) ∨ (J.go i H ∧ ∃ Nx : Hp → Prop, (∀ H', Nx H' → ∃ m', m' < m ∧ W (i + 1) m' H') ∧ ∀ x H', J.yld i H x H' → g x (wipe σ vs) H' fun σ2 H2 => wipe σ2 vs = wipe σ vs ∧ tYes σ2 H2 fun b H3 =>
        if b = true then te σ2 H3 fun y H4 => ∃ acc, H4 Dl = some (.lst acc) ∧ acc.length < sizeLine ∧ Nx (upd H4 Dl (.lst (acc ++ [y]))) else Nx H3) :=
  lc_it w (fun i H => ∃ ys, ys.length = i ∧ H Dl = some (.lst ys) ∧ I i ys H) ⟨[], rfl, upd_same, h0⟩ (fun i H hi ⟨ys, _, _, h⟩ => hG i ys H hi h) (fun i x H H' hi ⟨ys, hl, hd0, h⟩ hy => hs i x ys H H' hi hl hd0 h hy) fun H ⟨ys, hl, hd0, h⟩ => hd ys H hl hd0 h
end
/-- len(d), d a dict by numbers or texts -/
def rLenK : List V → Hp → VK → Prop := fun xs H Q => ∃ (p : Addr) (kvs : List (Key × V)), xs = [.ref p] ∧ H p = some (.dK kvs) ∧ Q (.int ((kvs.length : Nat) : Int)) H
theorem call_lenK {X : Cx} : CallR X (.builtin "len") rLenK := by
  intro pins s σ H xs us Q I r h
  obtain ⟨p, kvs, rfl, hp, q⟩ := h
  rw [Vals.ref1 r]
  exact d_len I (.inl hp) fun t s' I' => ⟨.int _, H, I', ⟨_, rfl⟩, q⟩
end LL
set_option maxHeartbeats 4000000
/-! Small things that many laws want. -/
namespace LL
open PySem PySem.Spec PyProof.Rows L2 Evl
theorem all2_get {Rs : List VP} {vs : List V} {H : Hp} {v : V} {i : Nat} (h : All2 Rs vs H) (hv : vs[i]? = some v) : ∃ R, Rs[i]? = some R ∧ R v H := by
  induction h generalizing i with
  | nil => simp at hv
  | cons a b ih =>
    cases i with
    | zero => simp at hv; subst hv; exact ⟨_, rfl, a⟩
    | succ i => exact ih (by simpa using hv)
theorem all2_mem {Rs : List VP} {vs : List V} {H : Hp} {v : V} (h : All2 Rs vs H) (hv : v ∈ vs) : ∃ R ∈ Rs, R v H := by
  induction h with
  | nil => cases hv
  | @cons x xs R Rs a b ih =>
    rcases List.mem_cons.mp hv with e | e
    · exact ⟨_, List.mem_cons_self, by rw [e]; exact a⟩
    · obtain ⟨S, hS, q⟩ := ih e
      exact ⟨S, List.mem_cons_of_mem _ hS, q⟩
theorem all2_snoc {Rs : List VP} {S : VP} {H : Hp} : ∀ {vs : List V}, All2 (Rs ++ [S]) vs H → ∃ q1 v, vs = q1 ++ [v] ∧ All2 Rs q1 H ∧ S v H := by
  induction Rs with
  | nil =>
    intro vs h
    cases h with
    | cons a b =>
      cases b
      exact ⟨[], _, rfl, .nil, a⟩
  | cons R Rs ih =>
    intro vs h
    cases h with
    | cons a b =>
      obtain ⟨q1, v, e, h1, h2⟩ := ih b
      exact ⟨_ :: q1, v, by rw [e]; rfl, .cons a h1, h2⟩
theorem all2_take {H : Hp} : ∀ (n : Nat) {Rs : List VP} {vs : List V}, All2 Rs vs H → All2 (Rs.take n) (vs.take n) H
  | 0, _, _, _ => .nil
  | _ + 1, _, _, .nil => .nil
  | n + 1, _, _, .cons a b => .cons a (all2_take n b)
theorem cut1 (x : V) (xs : List V) : cutV (x :: xs) (some 1) none = xs := by
  unfold cutV
  have e1 : HT.sIx (x :: xs).length 0 (some 1) = 1 := by simp [HT.sIx]
  have e2 : HT.sIx (x :: xs).length (x :: xs).length none = (x :: xs).length := rfl
  rw [e1, e2]
  simp
theorem cut1_no (x : V) (xs : List V) : ¬ (HT.sIx (x :: xs).length 0 (some 1) = 0 ∧ HT.sIx (x :: xs).length (x :: xs).length none = (x :: xs).length) := by
  have e1 : HT.sIx (x :: xs).length 0 (some 1) = 1 := by simp [HT.sIx]
  rw [e1]
  simp
theorem cut_to {xs : List V} {i : Nat} (h : i ≤ xs.length) : cutV xs none (some (i : Int)) = xs.take i := by
  unfold cutV
  have n : ¬ ((i : Int) < 0) := by omega
  have e1 : HT.sIx xs.length 0 none = 0 := rfl
  have e2 : HT.sIx xs.length xs.length (some (i : Int)) = i := by simp [HT.sIx, n]; omega
  rw [e1, e2]
  simp
theorem snoc_last {α : Type} (xs : List α) (x : α) : (xs ++ [x])[(xs ++ [x]).length - 1]? = some x := by simp
theorem monOfT {R : VP} (m : MonT R) : Mon R := fun v H H' e h => m v H H' (TupEx.of e) h
section
variable {K : PySem.W.Frag} {σ : L2.St} {H : Hp} {te ta tb : TE}
theorem et_lst {i : Nat} {a : Addr} {xs : List V} (hi : σ[i]? = some (some (.ref a))) (h : H a = some (.lst xs)) : EvT (fun σ H Q => (tVar i) σ H fun x H' => ∃ k, TruV K x H' k ∧ Q k H') σ H (!xs.isEmpty) :=
  fun H1 e Q q => ⟨_, hi, _, .inl ⟨xs, sq_of (e _ _ h), rfl⟩, q H1 (Ex.refl H1)⟩
theorem x_at {R : VP} {Q : VK} (h : EvX te σ H R) (k : ∀ v H1, Ex H H1 → R v H1 → Q v H1) : te σ H Q := h H (Ex.refl H) Q k
theorem ev_if2 {t : TT} {v : V} {b : Bool} (h : EvT t σ H b) (h1 : b = true → Ev ta σ H v) (h2 : b = false → Ev tb σ H v) : Ev (tIf t ta tb) σ H v := fun H1 e Q q => h H1 e _ fun H2 e2 => by
  cases b with
  | true => exact h1 rfl H2 (e.trans e2) Q fun H3 e3 => q H3 (e2.trans e3)
  | false => exact h2 rfl H2 (e.trans e2) Q fun H3 e3 => q H3 (e2.trans e3)
theorem if_at {Q : VK} {tt : TT} {b : Bool} (h : EvT tt σ H b) (h1 : b = true → ∀ H1, Ex H H1 → ta σ H1 Q) (h2 : b = false → ∀ H1, Ex H H1 → tb σ H1 Q) : tIf tt ta tb σ H Q := h H (Ex.refl H) _ fun H1 e => by
  cases b with
  | true => exact h1 rfl H1 e
  | false => exact h2 rfl H1 e
theorem ifS_or {t u : TT} {su sw : TS} {D : Ends} {b : Bool} (h : EvT t σ H b) (h1 : b = true → ∀ H1, Ex H H1 → su D σ H1) (h2 : b = false → ∀ H1, Ex H H1 → tIfS u su sw D σ H1) : tIfS (tOr t u) su sw D σ H := h H (Ex.refl H) _ fun H1 e => by
  cases b with
  | true => exact h1 rfl H1 e
  | false => exact h2 rfl H1 e
end
mutual
theorem dp_ex {K : PySem.W.Frag} {H H' : Hp} (e : Ex H H') : ∀ {v : V} {d : PyData}, Dp K H v d → Dp K H' v d
  | _, _, .non => .non
  | _, _, .bl b => .bl b
  | _, _, .int i => .int i
  | _, _, .str x => .str x
  | _, _, .lst h hs => .lst (ex_l e h) (dps_ex e hs)
  | _, _, .tup h hs => .tup (ex_t e h) (dps_ex e hs)
theorem dps_ex {K : PySem.W.Frag} {H H' : Hp} (e : Ex H H') : ∀ {vs : List V} {ds : List PyData}, DpAll K H vs ds → DpAll K H' vs ds
  | _, _, .nil => .nil
  | _, _, .cons h hs => .cons (dp_ex e h) (dps_ex e hs)
end
/-- x in t, t a tuple of data of any depth -/
def rInDT (K : PySem.W.Frag) : R2 := fun x y H Q => ∃ d ds, Dp K H x d ∧ Dp K H y (.tuple ds) ∧ SeqAt.shaped d = true ∧ SeqAt.shaped (.tuple ds) = true ∧ Q (.bl (ds.any fun z => PyData.eqv z d)) H
theorem op_inDT {X : Cx} (hu : X.A.units + 65 < cLine) : OpR X (compareOp .In) (rInDT X.K) := by
  intro pins s σ H x y v u Q I rx ry h
  obtain ⟨d, ds, hd, he, sd, se, q⟩ := h
  obtain ⟨as, r1⟩ := Dp.reads I d x v hd rx
  obtain ⟨bs, r2⟩ := Dp.reads I (.tuple ds) y u he ry
  exact SeqAt.in_tuple_reads r2 r1 (SeqAt.canLay_of_shaped se) (SeqAt.canLay_of_shaped sd) (room_in_shaped sd hu) ⟨.bl _, H, I, rfl, q⟩
theorem op_inDTK {X : Cx} {K : PySem.W.Frag} (hK : X.K = K) (hu : X.A.units + 65 < cLine) : OpR X (compareOp .In) (rInDT K) := by
  subst hK
  exact op_inDT hu
/-- pigeons, of anything -/
theorem nodup_leD {α : Type} [DecidableEq α] : ∀ (l m : List α), l.Nodup → (∀ x ∈ l, x ∈ m) → l.length ≤ m.length
  | [], _, _, _ => Nat.zero_le _
  | x :: l, m, hn, hs => by
    obtain ⟨h1, h2⟩ := List.nodup_cons.mp hn
    have hx := hs x List.mem_cons_self
    have ih := nodup_leD l (m.erase x) h2 fun y hy => (List.mem_erase_of_ne fun e => h1 (by rw [← e]; exact hy)).2 (hs y (List.mem_cons_of_mem _ hy))
    have e := List.length_erase_of_mem hx
    have hp : 0 < m.length := List.length_pos_of_mem hx
    rw [List.length_cons]
    omega
section
variable {K : PySem.W.Frag} {σ : L2.St} {H H1 : Hp} {J : It} {n : Nat} {G : Hp → Prop} {Y : Nat → Hp → V → Hp → Prop} {te : TE} {tt : TT} {vs : List Nat} {j : Nat} {g : TG} {Dl : Addr} {Qd : Hp → Prop}
/-- a comprehension with a test, by an invariant over what it has so far -/
def NxT (Dl : Addr) (I : Nat → List V → Hp → Prop) (i : Nat) : V → Hp → Prop := fun y H4 => ∃ acc, H4 Dl = some (.lst acc) ∧ acc.length < sizeLine ∧ ∃ ys, ys.length ≤ i + 1 ∧ L2.upd H4 Dl (.lst (acc ++ [y])) Dl = some (.lst ys) ∧ I (i + 1) ys (L2.upd H4 Dl (.lst (acc ++ [y])))
theorem NxT.of {I : Nat → List V → Hp → Prop} {i : Nat} {ys : List V} {y : V} (hl : ys.length ≤ i) (hi : i < 50000) (q1 : H Dl = some (.lst ys)) (q2 : I (i + 1) (ys ++ [y]) (L2.upd H Dl (.lst (ys ++ [y])))) : NxT Dl I i y H :=
  ⟨ys, q1, sz_lt (by omega), ys ++ [y], by rw [List.length_append, List.length_singleton]; omega, upd_same, q2⟩
theorem lcT (w : Walk J n G Y) (I : Nat → List V → Hp → Prop) (h0 : I 0 [] (upd H1 Dl (.lst []))) (hG : ∀ i ys H, i ≤ n → I i ys H → G H)
    (hs : ∀ i x ys H H', i < n → ys.length ≤ i → H Dl = some (.lst ys) → I i ys H → Y i H x H' → g x (wipe σ vs) H' fun σ2 H2 => wipe σ2 vs = wipe σ vs ∧ tt σ2 H2 fun b H3 => if b = true then te σ2 H3 (NxT Dl I i) else ∃ ys, ys.length ≤ i + 1 ∧ H3 Dl = some (.lst ys) ∧ I (i + 1) ys H3) (hd : ∀ ys H, ys.length ≤ n → H Dl = some (.lst ys) → I n ys H → Qd H) :
    ∃ W : Nat → Nat → Hp → Prop, (∃ m, W 0 m (upd H1 Dl (.lst []))) ∧ ∀ i m H, W i m H →
      (J.stop i H ∧ Qd H) ∨ (J.go i H ∧ ∃ Nx : Hp → Prop, (∀ H', Nx H' → ∃ m', m' < m ∧ W (i + 1) m' H') ∧ ∀ x H', J.yld i H x H' → g x (wipe σ vs) H' fun σ2 H2 => wipe σ2 vs = wipe σ vs ∧ tt σ2 H2 fun b H3 =>
        if b = true then te σ2 H3 fun y H4 => ∃ acc, H4 Dl = some (.lst acc) ∧ acc.length < sizeLine ∧ Nx (upd H4 Dl (.lst (acc ++ [y]))) else Nx H3) :=
  lc_it w (fun i H => ∃ ys, ys.length ≤ i ∧ H Dl = some (.lst ys) ∧ I i ys H) ⟨[], Nat.le_refl _, upd_same, h0⟩ (fun i H hi ⟨ys, _, _, h⟩ => hG i ys H hi h) (fun i x H H' hi ⟨ys, hl, hd0, h⟩ hy => hs i x ys H H' hi hl hd0 h hy) fun H ⟨ys, hl, hd0, h⟩ => hd ys H hl hd0 h
end
end LL
set_option maxHeartbeats 2000000
/-! Demands. -/
namespace K10
open PySem PySem.Spec PyProof.Rows L2 Evl LL
inductive Dm
  | claim (nm : Str) (n : Int)
  | both (a b : Dm)
  | either (a b : Dm)
inductive Dv (H : Hp) : V → Dm → Prop
  | claim {a : Addr} {nm : Str} {n : Int} (h : H a = some (.tup [.str "claim", .str nm, .int n])) : Dv H (.ref a) (.claim nm n)
  | both {a : Addr} {u v : V} {x y : Dm} (h : H a = some (.tup [.str "both", u, v])) (hx : Dv H u x) (hy : Dv H v y) : Dv H (.ref a) (.both x y)
  | either {a : Addr} {u v : V} {x y : Dm} (h : H a = some (.tup [.str "either", u, v])) (hx : Dv H u x) (hy : Dv H v y) : Dv H (.ref a) (.either x y)
theorem Dv.mono {H H' : Hp} (e : TupEx H H') {v : V} {d : Dm} (h : Dv H v d) : Dv H' v d := by
  induction h with
  | claim h => exact .claim (e _ _ h)
  | both h _ _ i1 i2 => exact .both (e _ _ h) i1 i2
  | either h _ _ i1 i2 => exact .either (e _ _ h) i1 i2
/-- a demand, or None -/
def IsDO : Option Dm → VP
  | none => fun v _ => v = .non
  | some d => fun v H => Dv H v d
theorem IsDO.monT : ∀ {o : Option Dm}, MonT (IsDO o)
  | none => fun _ _ _ _ h => h
  | some _ => fun _ _ _ e h => Dv.mono e h
theorem dos_monT {ds : List (Option Dm)} : ∀ R ∈ ds.map IsDO, MonT R := fun R hR => by
  obtain ⟨p, _, rfl⟩ := List.mem_map.mp hR
  exact IsDO.monT
/-- the parts of a demand, each ahead of those within it -/
def Dm.parts : Dm → List (Option Dm)
  | .claim nm n => [some (.claim nm n)]
  | .both a b => some (.both a b) :: (a.parts ++ b.parts)
  | .either a b => some (.either a b) :: (a.parts ++ b.parts)
def partsO : Option Dm → List (Option Dm)
  | none => [none]
  | some d => d.parts
def partsL : List (Option Dm) → List (Option Dm)
  | [] => []
  | o :: os => partsO o ++ partsL os
theorem Dm.parts_pos : ∀ d : Dm, 1 ≤ d.parts.length
  | .claim _ _ => Nat.le_refl _
  | .both _ _ => by simp [Dm.parts]
  | .either _ _ => by simp [Dm.parts]
theorem partsO_pos : ∀ o : Option Dm, 1 ≤ (partsO o).length
  | none => Nat.le_refl _
  | some d => d.parts_pos
theorem partsL_len : ∀ os : List (Option Dm), os.length ≤ (partsL os).length
  | [] => Nat.le_refl _
  | o :: os => by
    have a := partsO_pos o
    have b := partsL_len os
    simp only [partsL, List.length_append, List.length_cons]
    omega
def kidsO : Option Dm → List (Option Dm)
  | some (.both a b) => [some a, some b]
  | some (.either a b) => [some a, some b]
  | _ => []
theorem parts_kids : ∀ o : Option Dm, partsO o = o :: partsL (kidsO o)
  | none => rfl
  | some (.claim _ _) => rfl
  | some (.both a b) => by simp [partsO, Dm.parts, kidsO, partsL]
  | some (.either a b) => by simp [partsO, Dm.parts, kidsO, partsL]
theorem partsL_app : ∀ xs ys : List (Option Dm), partsL (xs ++ ys) = partsL xs ++ partsL ys
  | [], _ => rfl
  | x :: xs, ys => by simp [partsL, partsL_app xs ys]
theorem partsL_cons (o : Option Dm) (os : List (Option Dm)) : partsL (o :: os) = o :: partsL (kidsO o ++ os) := by
  rw [partsL_app, ← List.cons_append, ← parts_kids]
  rfl
theorem all2_snoc {Rs : List VP} {S : VP} {H : Hp} : ∀ {vs : List V}, All2 (Rs ++ [S]) vs H → ∃ q1 v, vs = q1 ++ [v] ∧ All2 Rs q1 H ∧ S v H := by
  induction Rs with
  | nil =>
    intro vs h
    cases h with
    | cons a b =>
      cases b
      exact ⟨[], _, rfl, .nil, a⟩
  | cons R Rs ih =>
    intro vs h
    cases h with
    | cons a b =>
      obtain ⟨q1, v, e, h1, h2⟩ := ih b
      exact ⟨_ :: q1, v, by rw [e]; rfl, .cons a h1, h2⟩
def spParts : Sp := fun vs H Q _ => ∃ (v : V) (o : Option Dm), vs = [v] ∧ IsDO o v H ∧ (partsO o).length ≤ 50000 ∧ ∀ p ws H', Ex H H' → H p = none → H' p = some (.lst ws) → All2 ((partsO o).map IsDO) ws H' → Q (.ref p) H'
section
variable {P : Program} {w : World} {K : PySem.W.Frag} {mg : Str → Option Value} {base : Heap} {f : Addr} {fd : FuncData}
theorem scParts : FnScope ["demand", "told", "todo", "part"] ["demand"] (defScope (top 2)) := ⟨rfl, rfl, rfl, by decide +kernel, rfl, by decide +kernel, by decide +kernel⟩
theorem ok_parts (F : FnT K "demand_parts" (top 2) f fd) : FnOk P w K mg base CX0 1 f fd ["demand"] spParts := by
  have sc := scParts
  refine F.ok scParts (fun vs H Q E h => ?_) (fun cdv A outer s H vs Q E hr h => ?_)
  · obtain ⟨_, _, rfl, _⟩ := h
    rfl
  refine ⟨_, PSs.nox (pss_cons (ps_set (i := 1) sc.nd rfl (Or.inl rfl) (pe_lst pa_nil))
      (pss_cons (ps_set (i := 2) sc.nd rfl (Or.inl rfl) (pe_lst (pa_cons (pv 0) pa_nil)))
      (pss_cons (ps_while PassesOwn.never (pt_truth (pv 2) (by intro _; rfl)) (pss_cons (ps_set (i := 3) sc.nd rfl (Or.inl rfl) (pe_bm0 PySem.F.plainAttrs_list PySem.F.slot_list_pop PySem.F.type_list_pop mt_pop (pv 2)))
      (pss_cons (ps_expr (pe_bm PySem.F.plainAttrs_list PySem.F.slot_list_append PySem.F.type_list_append mt_append (pv 1) (pa_cons (pv 3) pa_nil)))
      (pss_one (ps_if (PW.pt (pw_and (pt_cmpR op_notN (pv 3) pe_non (nomark _)) (pw_and1 (pt_cmpR op_ne (pe_ix ix_tup (pv 3) pe_int (fun _ _ => rfl)) pe_str (nomark _))))) (pss_one (ps_expr (pe_bm PySem.F.plainAttrs_list PySem.F.slot_list_extend PySem.F.type_list_extend mt_extend (pv 2) (pa_cons (pe_lst (pa_cons (pe_ix ix_tup (pv 3) pe_int (fun _ _ => rfl)) (pa_cons (pe_ix ix_tup (pv 3) pe_int (fun _ _ => rfl)) pa_nil))) pa_nil)))) pss_nil)))))
      (pss_one (ps_ret (pv 1)))))), ?_⟩
  obtain ⟨v0, o, rfl, hv0, hz, k⟩ := h
  refine q_asgL (el_lst ea_nil (by decide)) fun p H1 hp e1 h1 => ?_
  refine q_asgL (el_lst (ea_cons (ev_var rfl) ea_nil) (by show 1 ≤ 100000; decide)) fun td H2 htd e2 h2 => ?_
  have ntd : H td = none := fresh_back e1 htd
  have np : p ≠ td := fun q => by rw [q, htd] at h1; cases h1
  refine q_while (fun m σ' H' => ∃ ws qs done rest x3, σ' = [some v0, some (.ref p), some (.ref td), x3] ∧ H' p = some (.lst ws) ∧ H' td = some (.lst qs) ∧ Ex H H' ∧ All2 (done.map IsDO) ws H' ∧ All2 (rest.reverse.map IsDO) qs H' ∧ done ++ partsL rest = partsO o ∧ m = (partsL rest).length) (partsO o).length ?_ ?_
  · refine ⟨[], [v0], [], [o], _, rfl, e2 _ _ h1, h2, e1.trans e2, .nil, .cons ?_ .nil, by simp [partsL], by simp [partsL]⟩
    exact IsDO.monT _ _ _ (TupEx.of (e1.trans e2)) hv0
  · rintro m σ' H' ⟨ws, qs, done, rest, x3, rfl, hw, hq, ex, hd, hv, eq, rfl⟩
    refine ⟨!qs.isEmpty, et_lst rfl hq, fun hb2 H2 e4 => ?_, fun hb2 H2 e4 => ?_⟩
    · cases rest with
      | nil =>
        cases hv
        cases hb2
      | cons t rest =>
        rw [List.reverse_cons, List.map_append] at hv
        obtain ⟨q1, v, rfl, v1, v2⟩ := all2_snoc hv
        have hw2 := e4 _ _ hw
        have hq2 := e4 _ _ hq
        have ll := hd.len
        have lq := v1.len
        rw [List.length_map] at ll lq
        rw [List.length_reverse] at lq
        have ld : done.length + (partsL (t :: rest)).length ≤ 50000 := by
          have := congrArg List.length eq
          rw [List.length_append] at this
          omega
        have lr := partsL_len (t :: rest)
        rw [List.length_cons] at lr
        refine ⟨fun σ2 H2 => ∃ m', m' < (partsL (t :: rest)).length ∧ ∃ ws qs done rest x3, σ2 = [some v0, some (.ref p), some (.ref td), x3] ∧ H2 p = some (.lst ws) ∧ H2 td = some (.lst qs) ∧ Ex H H2 ∧ All2 (done.map IsDO) ws H2 ∧ All2 (rest.reverse.map IsDO) qs H2 ∧ done ++ partsL rest = partsO o ∧ m' = (partsL rest).length, fun σ2 H3 z => z, ?_⟩
        refine ⟨_, rfl, .inl ⟨rfl, _, sq_of hq2⟩, td, q1 ++ [v], v, rfl, rfl, hq2, snoc_last q1 v, ?_⟩
        rw [List.dropLast_concat]
        dsimp only [gName]
        have t4 : TupEx H' (upd H2 td (.lst q1)) := (TupEx.of e4).trans (TupEx.lst hq2)
        have hw3 : upd H2 td (.lst q1) p = some (.lst ws) := by rw [upd_ne np]; exact hw2
        have ex4 : Ex H (upd H2 td (.lst q1)) := (ex.trans e4).mut ntd
        have tv : IsDO t v (upd H2 td (.lst q1)) := IsDO.monT _ _ _ t4 v2
        have hd4 := All2.monT dos_monT t4 hd
        have v14 := All2.monT dos_monT t4 v1
        have hq4 : upd H2 td (.lst q1) td = some (.lst q1) := upd_same
        revert t4 hw3 ex4 tv hd4 v14 hq4
        generalize upd H2 td (.lst q1) = H4
        intro t4 hw3 ex4 tv hd4 v14 hq4
        refine q_app hw3 (ev_var rfl) (ev_var rfl) (by omega) fun H5 e5 => ?_
        have t5 : TupEx H4 (upd H5 p (.lst (ws ++ [v]))) := (TupEx.of e5).trans (TupEx.lst (e5 _ _ hw3))
        have hq5 : upd H5 p (.lst (ws ++ [v])) td = some (.lst q1) := by rw [upd_ne (Ne.symm np)]; exact e5 _ _ hq4
        have ex5 : Ex H (upd H5 p (.lst (ws ++ [v]))) := (ex4.trans e5).mut hp
        have hw5 : upd H5 p (.lst (ws ++ [v])) p = some (.lst (ws ++ [v])) := upd_same
        have tv5 := IsDO.monT _ _ _ t5 tv
        have hd5 := All2.monT dos_monT t5 hd4
        have v15 := All2.monT dos_monT t5 v14
        revert t5 hq5 ex5 hw5 tv5 hd5 v15
        generalize upd H5 p (.lst (ws ++ [v])) = H6
        intro t5 hq5 ex5 hw5 tv5 hd5 v15
        have pc := partsL_cons t rest
        -- what is left once the kids are on the stack
        have fin : ∀ (H7 : Hp) (ks : List V), Ex H H7 → TupEx H6 H7 → H7 p = some (.lst (ws ++ [v])) → H7 td = some (.lst (q1 ++ ks)) → All2 ((kidsO t).reverse.map IsDO) ks H7 →
            ∃ m', m' < (partsL (t :: rest)).length ∧ ∃ ws2 qs done rest x3, ([some v0, some (.ref p), some (.ref td), some v] : L2.St) = [some v0, some (.ref p), some (.ref td), x3] ∧ H7 p = some (.lst ws2) ∧ H7 td = some (.lst qs) ∧ Ex H H7 ∧ All2 (done.map IsDO) ws2 H7 ∧ All2 (rest.reverse.map IsDO) qs H7 ∧ done ++ partsL rest = partsO o ∧ m' = (partsL rest).length := fun H7 ks ex7 t7 hw7 hq7 hk => by
          refine ⟨_, by rw [pc, List.length_cons]; exact Nat.lt_succ_self _, ws ++ [v], q1 ++ ks, done ++ [t], kidsO t ++ rest, _, rfl, hw7, hq7, ex7, ?_, ?_, ?_, rfl⟩
          · rw [List.map_append]
            exact All2.app (All2.monT dos_monT t7 hd5) (.cons (IsDO.monT _ _ _ t7 tv5) .nil)
          · rw [List.reverse_append, List.map_append]
            exact All2.app (All2.monT dos_monT t7 v15) hk
          · rw [← eq, pc, List.append_assoc]
            rfl
        have none_ : kidsO t = [] → ∀ H7, Ex H6 H7 → ∃ m', m' < (partsL (t :: rest)).length ∧ ∃ ws2 qs done rest x3, ([some v0, some (.ref p), some (.ref td), some v] : L2.St) = [some v0, some (.ref p), some (.ref td), x3] ∧ H7 p = some (.lst ws2) ∧ H7 td = some (.lst qs) ∧ Ex H H7 ∧ All2 (done.map IsDO) ws2 H7 ∧ All2 (rest.reverse.map IsDO) qs H7 ∧ done ++ partsL rest = partsO o ∧ m' = (partsL rest).length := fun hk H7 e7 =>
          fin H7 [] (ex5.trans e7) (TupEx.of e7) (e7 _ _ hw5) (by rw [List.append_nil]; exact e7 _ _ hq5) (by rw [hk]; exact .nil)
        have two : ∀ (a : Addr) (hd1 u1 u2 : V) (x y : Dm), v = .ref a → kidsO t = [some x, some y] → H6 a = some (.tup [hd1, u1, u2]) → Dv H6 u1 x → Dv H6 u2 y → ∀ H7, Ex H6 H7 → ∀ zp, H7 zp = none →
            ∃ m', m' < (partsL (t :: rest)).length ∧ ∃ ws2 qs done rest x3, ([some v0, some (.ref p), some (.ref td), some v] : L2.St) = [some v0, some (.ref p), some (.ref td), x3] ∧ L2.upd (L2.upd H7 zp (.lst [u2, u1])) td (.lst (q1 ++ [u2, u1])) p = some (.lst ws2) ∧ L2.upd (L2.upd H7 zp (.lst [u2, u1])) td (.lst (q1 ++ [u2, u1])) td = some (.lst qs) ∧ Ex H (L2.upd (L2.upd H7 zp (.lst [u2, u1])) td (.lst (q1 ++ [u2, u1]))) ∧ All2 (done.map IsDO) ws2 (L2.upd (L2.upd H7 zp (.lst [u2, u1])) td (.lst (q1 ++ [u2, u1]))) ∧ All2 (rest.reverse.map IsDO) qs (L2.upd (L2.upd H7 zp (.lst [u2, u1])) td (.lst (q1 ++ [u2, u1]))) ∧ done ++ partsL rest = partsO o ∧ m' = (partsL rest).length := fun a hd1 u1 u2 x y _ hk ha hx hy H7 e7 zp hz => by
          have e8 := e7.trans (Ex.new (o := .lst [u2, u1]) hz)
          have hq8 := e8 _ _ hq5
          have t8 := (TupEx.of e8).trans (TupEx.lst (ys := q1 ++ [u2, u1]) hq8)
          refine fin _ [u2, u1] ((ex5.trans e8).mut ntd) t8 ?_ upd_same ?_
          · rw [upd_ne np]
            exact e8 _ _ hw5
          · rw [hk]
            exact .cons (hy.mono t8) (.cons (hx.mono t8) .nil)
        cases t with
        | none =>
          have tv6 : v = .non := tv5
          subst tv6
          exact ifS_and (b := false) (et_is (et_test (ev_op (ev_var rfl) ev_c (fun H1 _ Q q => ⟨rfl, q H1 (Ex.refl H1)⟩))) (by simp)) (fun z => nomatch z) (fun _ H7 e7 => none_ rfl H7 e7)
        | some d =>
          have tv6 : Dv H6 v d := tv5
          cases tv6 with
          | claim h =>
            refine ifS_and (b := true) (et_is (et_test (ev_op (ev_var rfl) ev_c (fun H1 _ Q q => ⟨rfl, q H1 (Ex.refl H1)⟩))) (by simp)) (fun _ H7 e7 => ?_) (fun z => nomatch z)
            exact s_when (b := false) (et_is (et_test (ev_op (ev_op (ev_var rfl) ev_c (rv_ixT (st_of (e7 _ _ h)) (atI_nat (j := 0) rfl))) ev_c (rv_ne rfl))) (by simp)) (fun z => nomatch z) (fun _ H8 e8 => none_ rfl H8 (e7.trans e8))
          | @both a u1 u2 x y h hx hy =>
            refine ifS_and (b := true) (et_is (et_test (ev_op (ev_var rfl) ev_c (fun H1 _ Q q => ⟨rfl, q H1 (Ex.refl H1)⟩))) (by simp)) (fun _ H7 e7 => ?_) (fun z => nomatch z)
            refine s_when (b := true) (et_is (et_test (ev_op (ev_op (ev_var rfl) ev_c (rv_ixT (st_of (e7 _ _ h)) (atI_nat (j := 0) rfl))) ev_c (rv_ne rfl))) (by decide)) (fun _ H8 e8 => ?_) (fun z => nomatch z)
            have e78 := e7.trans e8
            refine ⟨_, rfl, .inl ⟨rfl, _, sq_of (e78 _ _ hq5)⟩, _, rfl, a, _, 2, u2, rfl, rfl, st_of (e78 _ _ h), atI_nat (j := 2) rfl, _, rfl, a, _, 1, u1, rfl, rfl, st_of (e78 _ _ h), atI_nat (j := 1) rfl, by show 2 ≤ sizeLine; decide, fun zp hz => ⟨td, zp, q1, _, rfl, rfl, (Ex.new hz) _ _ (e78 _ _ hq5), upd_same, sz_of (by simp; omega), two a _ u1 u2 x y rfl rfl h hx hy H8 e78 zp hz⟩⟩
          | @either a u1 u2 x y h hx hy =>
            refine ifS_and (b := true) (et_is (et_test (ev_op (ev_var rfl) ev_c (fun H1 _ Q q => ⟨rfl, q H1 (Ex.refl H1)⟩))) (by simp)) (fun _ H7 e7 => ?_) (fun z => nomatch z)
            refine s_when (b := true) (et_is (et_test (ev_op (ev_op (ev_var rfl) ev_c (rv_ixT (st_of (e7 _ _ h)) (atI_nat (j := 0) rfl))) ev_c (rv_ne rfl))) (by decide)) (fun _ H8 e8 => ?_) (fun z => nomatch z)
            have e78 := e7.trans e8
            refine ⟨_, rfl, .inl ⟨rfl, _, sq_of (e78 _ _ hq5)⟩, _, rfl, a, _, 2, u2, rfl, rfl, st_of (e78 _ _ h), atI_nat (j := 2) rfl, _, rfl, a, _, 1, u1, rfl, rfl, st_of (e78 _ _ h), atI_nat (j := 1) rfl, by show 2 ≤ sizeLine; decide, fun zp hz => ⟨td, zp, q1, _, rfl, rfl, (Ex.new hz) _ _ (e78 _ _ hq5), upd_same, sz_of (by simp; omega), two a _ u1 u2 x y rfl rfl h hx hy H8 e78 zp hz⟩⟩
    · have e0 : qs = [] := by
        cases qs with
        | nil => rfl
        | cons _ _ => cases hb2
      subst e0
      have r0 : rest = [] := by
        have := hv.len
        rw [List.length_map, List.length_reverse] at this
        exact List.length_eq_zero_iff.mp this
      subst r0
      refine s_ret (ev_var rfl) fun H3 e3 => k p ws H3 ((ex.trans e4).trans e3) hp ((e4.trans e3) _ _ hw) ?_
      have : done = partsO o := by simpa [partsL] using eq
      rw [← this]
      exact All2.monT dos_monT (TupEx.of (e4.trans e3)) hd
end
end K10
set_option maxHeartbeats 8000000
/-! The hand that draws: _law_hand, _law_draw, _law_some. -/
namespace K10
open PySem PySem.Spec PyProof.Rows L2 Evl LL
/-- the names that stay the built-ins' own -/
structure FrH (mg : Str → Option Value) : Prop where
  abs : mg "abs" = none
  int : mg "int" = none
  len : mg "len" = none
  range : mg "range" = none
  isinstance : mg "isinstance" = none
  ValueError : mg "ValueError" = none
  repr : mg "repr" = none
  enumerate : mg "enumerate" = none
  any : mg "any" = none
/-- the hand at l: the cells' list, the next one's place, what is left of a great one, the mix, how many were mixed -/
def HandC (H : Hp) (l c : Addr) : Prop := ∃ (ns : List Int) (i g m t : Int), H l = some (.lst [.ref c, .int i, .int g, .int m, .int t]) ∧ H c = some (.lst (ns.map V.int)) ∧ 0 ≤ i ∧ ns.length ≤ 63
def Hand (H : Hp) (l : Addr) : Prop := ∃ (c : Addr), HandC H l c
theorem HandC.mono {H H' : Hp} {l c : Addr} (e : Ex H H') (h : HandC H l c) : HandC H' l c := by
  obtain ⟨ns, i, g, m, t, h1, h2, h3⟩ := h
  exact ⟨ns, i, g, m, t, e _ _ h1, e _ _ h2, h3⟩
theorem Hand.mono {H H' : Hp} {l : Addr} (e : Ex H H') (h : Hand H l) : Hand H' l := by
  obtain ⟨c, h⟩ := h
  exact ⟨c, h.mono e⟩
/-- a list of one's own stays apart from the hand -/
theorem HandC.own {H : Hp} {l c p : Addr} {o : HO} (h : HandC H l c) (hl : p ≠ l) (hc : p ≠ c) : HandC (upd H p o) l c := by
  obtain ⟨ns, i, g, m, t, h1, h2, h3⟩ := h
  exact ⟨ns, i, g, m, t, by rw [upd_ne (Ne.symm hl)]; exact h1, by rw [upd_ne (Ne.symm hc)]; exact h2, h3⟩
theorem HandC.new {H : Hp} {l c p : Addr} (h : HandC H l c) (hp : H p = none) : p ≠ l ∧ p ≠ c := by
  obtain ⟨ns, i, g, m, t, h1, h2, h3⟩ := h
  exact ⟨(fun e => by rw [e, h1] at hp; cases hp), (fun e => by rw [e, h2] at hp; cases hp)⟩
def spHand (K : PySem.W.Frag) : Sp := fun vs H Q _ => ∃ (a : Addr) (ns : List Int), vs = [.ref a] ∧ SqL K H a (ns.map V.int) ∧ ns.length ≤ 63 ∧ ∀ l H', H l = none → Ex H H' → Hand H' l → Q (.ref l) H'
def spDraw : Sp := fun vs H Q _ => ∃ (l c : Addr) (n : Int), vs = [.ref l, .int n] ∧ 1 ≤ n ∧ n < 1073741824 ∧ HandC H l c ∧ ∀ f H', 0 ≤ f → f < n → Exl l H H' → HandC H' l c → Q (.int f) H'
def spSome : Sp := fun vs H Q _ => ∃ (l c p : Addr) (xs : List V), vs = [.ref l, .ref p] ∧ p ≠ l ∧ (H p = some (.lst xs) ∨ H p = some (.tup xs)) ∧ xs ≠ [] ∧ xs.length ≤ 100000 ∧ HandC H l c ∧ ∀ v H', v ∈ xs → Exl l H H' → HandC H' l c → Q v H'
theorem cut_ints (ns : List Int) (lo hi : Option Int) : ∃ ms : List Int, cutV (ns.map V.int) lo hi = ms.map V.int ∧ ms.length ≤ ns.length := by
  refine ⟨(ns.drop (HT.sIx (ns.map V.int).length 0 lo)).take (HT.sIx (ns.map V.int).length (ns.map V.int).length hi - HT.sIx (ns.map V.int).length 0 lo), ?_, ?_⟩
  · unfold cutV
    rw [List.map_take, List.map_drop]
  · rw [List.length_take, List.length_drop]
    omega
def absI (n : Int) : Int := if n < 0 then -n else n
section
variable {P : Program} {w : World} {K : PySem.W.Frag} {mg : Str → Option Value} {base : Heap} {f : Addr} {fd : FuncData}
theorem scH : FnScope ["script", "cells", "cell"] ["script"] (defScope (top 7)) := ⟨rfl, rfl, rfl, by decide +kernel, rfl, by decide +kernel, by decide +kernel⟩
theorem ok_hand (F : FnT K "_law_hand" (top 7) f fd) (T : FrH mg) : FnOk P w K mg base CX0 1 f fd ["script"] (spHand K) := by
  have sc := scH
  refine F.ok scH (fun vs H Q E h => ?_) (fun cdv A outer s H vs Q E hr h => ?_)
  · obtain ⟨a, ns, rfl, _⟩ := h
    rfl
  refine ⟨_, PSs.nox (pss_cons (ps_setLc (i := 1) (own := [("cell", 2)]) (tt := tYes) rfl sc.nd rfl rfl (sw_true rfl rfl rfl (by decide +kernel)) (pi_list (pe_slice sl_list (pv 0) po_none (po_some pe_int))) (blkOk_by (N := ["script", "cells", "cell"]) (sc := defScope (top 7)) (by decide +kernel)) (fun _ _ _ _ _ => (pg_name (i := 2) sc.nd rfl (Or.inl rfl))) (fun _ _ _ _ _ => pts_nil) (fun _ _ _ _ _ => (pe_callB call_abs (by rfl) T.abs (by decide +kernel) (pa_cons (pe_callTy call_int1 (by rfl) T.int (by decide +kernel) (pa_cons (pv 2) pa_nil)) pa_nil))))
      (pss_one (ps_ret (pe_lst (pa_cons (pv 1) (pa_cons pe_int (pa_cons pe_int (pa_cons (pe_op op_add pe_int (pe_op op_mul pe_int (pe_callB call_len (by rfl) T.len (by decide +kernel) (pa_cons (pv 1) pa_nil)))) (pa_cons pe_int pa_nil))))))))), ?_⟩
  obtain ⟨a, ns, rfl, hS, hl, k⟩ := h
  obtain ⟨ms, e1, e2⟩ := cut_ints ns none (some 63)
  refine q_asgL (el_lcNL (fun _ => true) (fun i => .int (absI (ms[i]?.getD 0))) (xs := ms.map V.int) ?_ (by rw [List.length_map]; omega) (fun x => rfl) (fun i x H1 e hx => ?_) (fun i x H1 e hx _ => ?_)) ?_
  · rw [← e1]
    exact el_sl (ev_var rfl) eo_none (eo_some ev_c) hS
  · exact fun H2 _ Q q => q H2 (Ex.refl H2)
  · rw [List.getElem?_map] at hx
    obtain ⟨n, hn, rfl⟩ := Option.map_eq_some_iff.mp hx
    rw [hn]
    refine ev_cb (ea_cons (ev_cb (ea_cons (ev_var rfl) ea_nil) (fun H2 _ Q q => .inl ⟨n, rfl, q H2 (Ex.refl H2)⟩)) ea_nil) (fun H2 _ Q q => ⟨n, rfl, q H2 (Ex.refl H2)⟩)
  · intro c H1 hc e1 h1
    have e3 : given (ms.map V.int).length (fun _ => true) (fun i => V.int (absI (ms[i]?.getD 0))) = ((List.range (ms.map V.int).length).map fun i => absI (ms[i]?.getD 0)).map V.int := by
      unfold given
      rw [List.filter_eq_self.mpr (fun _ _ => rfl), List.map_map]
      rfl
    rw [e3] at h1
    obtain ⟨ks, hk⟩ : ∃ ks : List Int, ks = (List.range (ms.map V.int).length).map fun i => absI (ms[i]?.getD 0) := ⟨_, rfl⟩
    rw [← hk] at h1
    have kl : ks.length ≤ 63 := by
      rw [hk, List.length_map, List.length_range, List.length_map]
      omega
    refine s_retL (el_lst (ea_cons (ev_var rfl) (ea_cons ev_c (ea_cons ev_c (ea_cons (ev_op ev_c (ev_op ev_c (ev_cb (z := .int ((ks.map V.int).length : Nat)) (ea_cons (ev_var rfl) ea_nil) ?len) (rv_I (Or.inl ⟨by decide, by decide⟩))) rv_I0) (ea_cons ev_c ea_nil))))) (by show 5 ≤ 100000; decide)) ?_
    case len =>
      exact fun H2 e Q q => ⟨_, _, rfl, .inl ⟨_, sq_of (e c _ h1), rfl⟩, q H2 (Ex.refl H2)⟩
    · intro p H2 hp e4 h2
      refine k p H2 (fresh_back e1 hp) (e1.trans e4) ⟨c, ks, _, _, _, _, h2, e4 c _ h1, by decide, kl⟩
theorem scD : FnScope ["hand", "many", "number", "cell", "digit"] ["hand", "many"] (defScope (top 8)) := ⟨rfl, rfl, rfl, by decide +kernel, rfl, by decide +kernel, by decide +kernel⟩
theorem ev_hand {σ : L2.St} {H : Hp} {l : Addr} {xs : List V} {j : Int} {v : V} (h0 : σ[0]? = some (some (.ref l))) (h : H l = some (.lst xs)) (ha : atI xs j = some v) : Ev (tOp (rIxL K) (tVar 0) (tC (.int j))) σ H v := ev_op (ev_var h0) ev_c (rv_ixL (sq_of h) ha)
theorem rc_int {H : Hp} {i : Int} {r : List V → Hp → VK → Prop} (h : ∀ H1 Q, Q (.int i) H1 → r [.int i] H1 Q) : RC r [.int i] H (.int i) := fun H1 _ Q q => h H1 Q (q H1 (Ex.refl H1))
theorem fm_nn {a b : Int} (h : 0 < b) : 0 ≤ a.fmod b ∧ a.fmod b < b := ⟨Int.fmod_nonneg_of_pos a h, Int.fmod_lt_of_pos a h⟩
section
variable {σ : L2.St} {H : Hp} {D : Ends} {ta tb te : TE} {tz : TS} {l : Addr} {xs ys : List V} {j : Nat} {v : V}
/-- xs[j] = e, told by what stands behind -/
theorem s_setX (hl : H l = some (.lst xs)) (h : Ev te σ H v) (ho : Ev ta σ H (.ref l)) (hi : Ev tb σ H (.int (j : Int))) (hj : j < xs.length) (hy : xs.set j v = ys) (k : ∀ G, G l = some (.lst ys) → Exl l H G → D.nx σ G) : tAsg te (gSub ta tb rSetL) D σ H :=
  s_setL hl h ho hi hj fun H1 e => k _ (by rw [hy]; exact upd_same) ((Exl.of e).trans Exl.upd)
theorem q_setX (hl : H l = some (.lst xs)) (h : Ev te σ H v) (ho : Ev ta σ H (.ref l)) (hi : Ev tb σ H (.int (j : Int))) (hj : j < xs.length) (hy : xs.set j v = ys) (k : ∀ G, G l = some (.lst ys) → Exl l H G → tz D σ G) : tSeq (tAsg te (gSub ta tb rSetL)) tz D σ H :=
  s_setX (D := { D with nx := tz D }) hl h ho hi hj hy k
end
theorem ok_draw (F : FnT K "_law_draw" (top 8) f fd) (T : FrH mg) : FnOk P w K mg base CX0 1 f fd ["hand", "many"] spDraw := by
  have sc := scD
  refine F.ok scD (fun vs H Q E h => ?_) (fun cdv A outer s H vs Q E hr h => ?_)
  · obtain ⟨l, _, n, rfl, _⟩ := h
    rfl
  refine ⟨_, PSs.nox (pss_cut (ps_if (PW.pt (pw_and (pt_cmpR op_eq (pe_ix ix_list (pv 0) pe_int (fun _ _ => rfl)) pe_int (nomark _)) (pw_and1 (pt_cmpR op_lt (pe_ix ix_list (pv 0) pe_int (fun _ _ => rfl)) (pe_callB call_len (by rfl) T.len (by decide +kernel) (pa_cons (pe_ix ix_list (pv 0) pe_int (fun _ _ => rfl)) pa_nil)) (nomark _))))) (pss_cons (ps_set (i := 3) sc.nd rfl (Or.inl rfl) (pe_ix ix_list (pe_ix ix_list (pv 0) pe_int (fun _ _ => rfl)) (pe_ix ix_list (pv 0) pe_int (fun _ _ => rfl)) (fun _ _ => rfl)))
      (pss_cons (ps_asg (pe_op op_add (pe_ix ix_list (pv 0) pe_int (fun _ _ => rfl)) pe_int) (pg_sub (pv 0) pe_int set_list))
      (pss_cons (ps_asg (pe_op op_modN (pe_callTy call_int1 (by rfl) T.int (by decide +kernel) (pa_cons (pe_op op_add (pe_op op_add (pe_op op_mul (pe_ix ix_list (pv 0) pe_int (fun _ _ => rfl)) pe_int) (pv 3)) pe_int) pa_nil)) pe_int) (pg_sub (pv 0) pe_int set_list))
      (pss_one (ps_if (pt_cmpR op_ge (pv 3) (pe_op op_pow pe_int pe_int) (nomark _)) (pss_one (ps_asg (pv 3) (pg_sub (pv 0) pe_int set_list))) pss_nil))))) pss_nil)
      (pss_cons (ps_if (pt_cmpR op_gt (pe_ix ix_list (pv 0) pe_int (fun _ _ => rfl)) pe_int (nomark _)) (pss_cons (ps_set (i := 4) sc.nd rfl (Or.inl rfl) (pe_op op_modN (pe_callTy call_int1 (by rfl) T.int (by decide +kernel) (pa_cons (pe_ix ix_list (pv 0) pe_int (fun _ _ => rfl)) pa_nil)) (pv 1)))
      (pss_cons (ps_asg (pe_op op_fdivN (pe_ix ix_list (pv 0) pe_int (fun _ _ => rfl)) (pv 1)) (pg_sub (pv 0) pe_int set_list))
      (pss_one (ps_ret (pv 4))))) pss_nil)
      (pss_cons (ps_asg (pe_op op_add (pe_ix ix_list (pv 0) pe_int (fun _ _ => rfl)) pe_int) (pg_sub (pv 0) pe_int set_list))
      (pss_cons (ps_set (i := 2) sc.nd rfl (Or.inl rfl) (pe_op op_modN (pe_callTy call_int1 (by rfl) T.int (by decide +kernel) (pa_cons (pe_op op_mul (pe_callTy call_int1 (by rfl) T.int (by decide +kernel) (pa_cons (pe_op op_add (pe_ix ix_list (pv 0) pe_int (fun _ _ => rfl)) (pe_op op_mul pe_int (pe_ix ix_list (pv 0) pe_int (fun _ _ => rfl)))) pa_nil)) pe_int) pa_nil)) pe_int))
      (pss_cons (ps_set (i := 2) sc.nd rfl (Or.inl rfl) (pe_op op_modN (pe_callTy call_int1 (by rfl) T.int (by decide +kernel) (pa_cons (pe_op op_mul (pv 2) (pe_op op_add (pe_op op_fdivN (pv 2) pe_int) pe_int)) pa_nil)) pe_int))
      (pss_cons (ps_set (i := 2) sc.nd rfl (Or.inl rfl) (pe_op op_modN (pe_callTy call_int1 (by rfl) T.int (by decide +kernel) (pa_cons (pe_op op_mul (pv 2) (pe_op op_add (pe_op op_fdivN (pv 2) pe_int) pe_int)) pa_nil)) pe_int))
      (pss_one (ps_ret (pe_op op_modN (pe_callTy call_int1 (by rfl) T.int (by decide +kernel) (pa_cons (pe_op op_fdivN (pv 2) pe_int) pa_nil)) (pv 1)))))))))), ?_⟩
  obtain ⟨l, c, n, rfl, n1, n2, hh, k⟩ := h
  -- Mid: behind the first if
  refine q_cut (M := fun σ H' => (∃ a b c, σ = [some (.ref l), some (.int n), a, b, c]) ∧ Exl l H H' ∧ HandC H' l c) ?first ?rest
  case first =>
    obtain ⟨ns, i, g, m, t, h1, h2, hi, hl⟩ := hh
    have cl : c ≠ l := fun e => by
      rw [e, h1] at h2
      cases ns <;> simp at h2
    refine s_if (b := decide (g = 0) && decide (i < (ns.length : Nat))) ?t ?yes ?nay
    case t =>
      refine et_and (et_test (ev_is (ev_op (ev_hand rfl h1 (v := .int g) rfl) ev_c (rv_eq rfl)) ?_)) fun _ => et_test (ev_is (ev_op (ev_hand rfl h1 (v := .int i) rfl) (ev_cb (z := .int (ns.length : Nat)) (ea_cons (ev_hand rfl h1 (v := .ref c) rfl) ea_nil) ?_) rv_I0) ?_)
      · by_cases e : g = 0 <;> simp [e]
      · exact fun H2 e Q q => ⟨_, _, rfl, .inl ⟨_, sq_of (e c _ h2), (List.length_map ..).symm⟩, q H2 (Ex.refl H2)⟩
      · rfl
    case nay => exact fun _ H1 e => ⟨⟨_, _, _, rfl⟩, Exl.of e, HandC.mono e ⟨ns, i, g, m, t, h1, h2, hi, hl⟩⟩
    case yes =>
      intro hb H1 e1
      obtain ⟨hg, hlt⟩ : g = 0 ∧ i < (ns.length : Nat) := by simpa using hb
      obtain ⟨j, rfl⟩ : ∃ j : Nat, i = (j : Int) := ⟨i.toNat, by omega⟩
      have hj : j < ns.length := by omega
      have c1 := e1 _ _ h1
      have d1 := e1 _ _ h2
      refine q_asg (v := .int ns[j]) (ev_op (ev_hand rfl c1 (v := .ref c) rfl) (ev_hand rfl c1 (v := .int (j : Int)) rfl) (rv_ixL (sq_of d1) (atI_nat (by simp [hj])))) fun H2 e2 => ?_
      have c2 := e2 _ _ c1
      have d2 := e2 _ _ d1
      refine q_setX (j := 1) (v := .int ((j : Int) + 1)) c2 (ev_op (ev_hand rfl c2 (v := .int (j : Int)) rfl) ev_c rv_I0) (ev_var rfl) ev_c (by show 1 < 5; decide) rfl fun H3 c3 e3 => ?_
      refine q_setX (j := 3) (v := .int ((m * 69621 + ns[j] + 71).fmod 2147483629)) c3
        (ev_op (ev_cb (ea_cons (ev_op (ev_op (ev_op (ev_hand rfl c3 (v := .int m) rfl) ev_c (rv_I (Or.inr ⟨by decide, by decide⟩))) (ev_var rfl) rv_I0) ev_c rv_I0) ea_nil) (rc_int fun H1 Q q => .inl ⟨_, rfl, q⟩)) ev_c (rv_I (by decide)))
        (ev_var rfl) ev_c (by show 3 < 5; decide) rfl fun H4 c4 e4 => ?_
      have d4 := e4 _ _ cl (e3 _ _ cl d2)
      have x4 : Exl l H H4 := (((Exl.of e1).trans (Exl.of e2)).trans e3).trans e4
      revert c4
      generalize (m * 69621 + ns[j] + 71).fmod 2147483629 = m2
      intro c4
      refine s_if (b := decide ((10 : Int) ^ (18 : Int).toNat ≤ ns[j])) (et_test (ev_op (ev_var rfl) (ev_op ev_c ev_c (rv_I ⟨by decide, by decide, by decide⟩)) rv_I0)) (fun _ H5 e5 => ?_) (fun _ H5 e5 => ?_)
      · refine s_setX (j := 2) (v := .int ns[j]) (e5 _ _ c4) (ev_var rfl) (ev_var rfl) ev_c (by show 2 < 5; decide) rfl fun H6 c6 e6 => ?_
        exact ⟨⟨_, _, _, rfl⟩, (x4.trans (Exl.of e5)).trans e6, ns, _, _, _, _, c6, e6 _ _ cl (e5 _ _ d4), by omega, hl⟩
      · exact ⟨⟨_, _, _, rfl⟩, x4.trans (Exl.of e5), ns, _, _, _, _, e5 _ _ c4, e5 _ _ d4, by omega, hl⟩
  case rest =>
    rintro σ H1 ⟨⟨a, b, d, rfl⟩, x1, ns, i, g, m, t, h1, h2, hi, hl⟩
    have cl : c ≠ l := fun e => by
      rw [e, h1] at h2
      cases ns <;> simp at h2
    refine q_if (b := decide (0 < g)) (et_test (ev_op (ev_hand rfl h1 (v := .int g) rfl) ev_c rv_I0)) (fun _ H2 e2 => ?_) (fun _ H2 e2 => ?_)
    · have c2 := e2 _ _ h1
      refine q_asg (v := .int (g.fmod n)) (ev_op (ev_cb (ea_cons (ev_hand rfl c2 (v := .int g) rfl) ea_nil) (rc_int fun H1 Q q => .inl ⟨_, rfl, q⟩)) (ev_var rfl) (rv_I (by omega))) fun H3 e3 => ?_
      have c3 := e3 _ _ c2
      refine q_setX (j := 2) (v := .int (g.fdiv n)) c3 (ev_op (ev_hand rfl c3 (v := .int g) rfl) (ev_var rfl) (rv_I ⟨by omega, by omega⟩)) (ev_var rfl) ev_c (by show 2 < 5; decide) rfl fun H4 c4 e4 => ?_
      refine s_ret (ev_var rfl) fun H5 e5 => ?_
      obtain ⟨f1, f2⟩ := fm_nn (a := g) (b := n) (by omega)
      exact k _ H5 f1 f2 ((((x1.trans (Exl.of e2)).trans (Exl.of e3)).trans e4).trans (Exl.of e5)) ⟨ns, i, _, _, _, e5 _ _ c4, e5 _ _ (e4 _ _ cl (e3 _ _ (e2 _ _ h2))), hi, hl⟩
    · have c2 := e2 _ _ h1
      show tSeq _ _ _ _ _
      refine q_setX (j := 4) (v := .int (t + 1)) c2 (ev_op (ev_hand rfl c2 (v := .int t) rfl) ev_c rv_I0) (ev_var rfl) ev_c (by show 4 < 5; decide) rfl fun H3 c3 e3 => ?_
      have d3 := e3 _ _ cl (e2 _ _ h2)
      have x3 : Exl l H H3 := (x1.trans (Exl.of e2)).trans e3
      refine q_asg (v := .int (((m + 7919 * (t + 1)) * 48271).fmod 2147483647)) (ev_op (ev_cb (ea_cons (ev_op (ev_cb (ea_cons (ev_op (ev_hand rfl c3 (v := .int m) rfl) (ev_op ev_c (ev_hand rfl c3 (v := .int (t + 1)) rfl) (rv_I (Or.inl ⟨by decide, by decide⟩))) rv_I0) ea_nil) (rc_int fun H1 Q q => .inl ⟨_, rfl, q⟩)) ev_c
        (rv_I (Or.inr ⟨by decide, by decide⟩))) ea_nil) (rc_int fun H1 Q q => .inl ⟨_, rfl, q⟩)) ev_c (rv_I (by decide))) fun H4 e4 => ?_
      obtain ⟨p1, p2⟩ := fm_nn (a := (m + 7919 * (t + 1)) * 48271) (b := 2147483647) (by decide)
      revert p1 p2
      generalize ((m + 7919 * (t + 1)) * 48271).fmod 2147483647 = r1
      intro p1 p2
      refine q_asg (v := .int ((r1 * (r1.fdiv 1009 + 69621)).fmod 2147483647)) (ev_op (ev_cb (ea_cons (ev_op (ev_var rfl) (ev_op (ev_op (ev_var rfl) ev_c (rv_I ⟨by decide, by decide⟩)) ev_c rv_I0) (rv_I (Or.inl ⟨by omega, by omega⟩))) ea_nil) (rc_int fun H1 Q q => .inl ⟨_, rfl, q⟩)) ev_c (rv_I (by decide))) fun H5 e5 => ?_
      obtain ⟨p3, p4⟩ := fm_nn (a := r1 * (r1.fdiv 1009 + 69621)) (b := 2147483647) (by decide)
      revert p3 p4
      generalize (r1 * (r1.fdiv 1009 + 69621)).fmod 2147483647 = r2
      intro p3 p4
      refine q_asg (v := .int ((r2 * (r2.fdiv 2003 + 40692)).fmod 2147483399)) (ev_op (ev_cb (ea_cons (ev_op (ev_var rfl) (ev_op (ev_op (ev_var rfl) ev_c (rv_I ⟨by decide, by decide⟩)) ev_c rv_I0) (rv_I (Or.inl ⟨by omega, by omega⟩))) ea_nil) (rc_int fun H1 Q q => .inl ⟨_, rfl, q⟩)) ev_c (rv_I (by decide))) fun H6 e6 => ?_
      generalize (r2 * (r2.fdiv 2003 + 40692)).fmod 2147483399 = r3
      refine s_ret (v := .int ((r3.fdiv 16).fmod n)) (ev_op (ev_cb (ea_cons (ev_op (ev_var rfl) ev_c (rv_I ⟨by decide, by decide⟩)) ea_nil) (rc_int fun H1 Q q => .inl ⟨_, rfl, q⟩)) (ev_var rfl) (rv_I (by omega))) fun H7 e7 => ?_
      obtain ⟨f1, f2⟩ := fm_nn (a := r3.fdiv 16) (b := n) (by omega)
      have ex := ((e4.trans e5).trans e6).trans e7
      exact k _ H7 f1 f2 (x3.trans (Exl.of ex)) ⟨ns, i, _, _, _, ex _ _ c3, ex _ _ d3, hi, hl⟩
theorem scS : FnScope ["hand", "things"] ["hand", "things"] (defScope (top 9)) := ⟨rfl, rfl, rfl, by decide +kernel, rfl, by decide +kernel, by decide +kernel⟩
structure Fs (P : Program) (w : World) (K : PySem.W.Frag) (mg : Str → Option Value) (base : Heap) : Prop extends FrH mg where
  h_law_draw : Has P w K mg base CX0 "_law_draw" 1 ["hand", "many"] spDraw
theorem ok_some (F : FnT K "_law_some" (top 9) f fd) (T : Fs P w K mg base) : FnOk P w K mg base CX0 2 f fd ["hand", "things"] spSome := by
  have sc := scS
  refine F.ok scS (fun vs H Q E h => ?_) (fun cdv A outer s H vs Q E hr h => ?_)
  · obtain ⟨l, _, p, xs, rfl, _⟩ := h
    rfl
  refine ⟨_, PSs.nox (pss_one (ps_ret (pe_ix ix_seq (pv 1) (pe_callH T.h_law_draw hr pass0 (pa_cons (pv 0) (pa_cons (pe_callB call_len (by rfl) T.len (by decide +kernel) (pa_cons (pv 1) pa_nil)) pa_nil))) (fun _ _ => rfl)))), ?_⟩
  obtain ⟨l, c, p, xs, rfl, pl, hp, ne, lx, hh, k⟩ := h
  have lp : 0 < xs.length := List.length_pos_iff.mpr ne
  refine ⟨_, rfl, _, rfl, _, rfl, _, xs.length, rfl, hp.elim (fun h => .inl ⟨_, sq_of h, rfl⟩) (fun h => .inr ⟨_, st_of h, rfl⟩), l, c, (xs.length : Nat), rfl, by omega, by omega, hh, fun f H' f0 f1 ex hh' => ?_⟩
  obtain ⟨j, rfl⟩ : ∃ j : Nat, f = (j : Int) := ⟨f.toNat, by omega⟩
  have hj : j < xs.length := by omega
  have e : xs[j]? = some xs[j] := by simp [hj]
  exact hp.elim (fun h => .inl ⟨p, xs, j, xs[j], rfl, rfl, sq_of (ex _ _ pl h), atI_nat e, k _ H' (List.getElem_mem hj) ex hh'⟩) (fun h => .inr (.inl ⟨p, xs, j, xs[j], rfl, rfl, st_of (ex _ _ pl h), atI_nat e, k _ H' (List.getElem_mem hj) ex hh'⟩))
end
end K10
set_option maxHeartbeats 16000000
namespace K10
open PySem PySem.Spec PyProof.Rows L2 Evl LL
theorem erase_perm {α : Type} : ∀ (ys : List α) (j : Nat) (h : j < ys.length), (ys[j] :: ys.eraseIdx j).Perm ys
  | y :: ys, 0, _ => List.Perm.refl _
  | y :: ys, j + 1, h => (List.Perm.swap y _ _).trans ((erase_perm ys j (by simpa using h)).cons y)
def spMixed : Sp := fun vs H Q _ => ∃ (l c p : Addr) (xs : List V), vs = [.ref l, .ref p] ∧ p ≠ l ∧ H p = some (.lst xs) ∧ xs.length ≤ 1000 ∧ HandC H l c ∧ ∀ q ys H', ys.Perm xs → H q = none → Exl l H H' → HandC H' l c → H' q = some (.lst ys) → Q (.ref q) H'
structure Fx (P : Program) (w : World) (K : PySem.W.Frag) (mg : Str → Option Value) (base : Heap) : Prop where
  len : mg "len" = none
  list : mg "list" = none
  range : mg "range" = none
  h_law_draw : Has P w K mg base CX0 "_law_draw" 1 ["hand", "many"] spDraw
section
variable {P : Program} {w : World} {K : PySem.W.Frag} {mg : Str → Option Value} {base : Heap} {f : Addr} {fd : FuncData}
theorem scMixed : FnScope ["hand", "things", "turn", "left", "found"] ["hand", "things"] (defScope (top 10)) := ⟨rfl, rfl, rfl, by decide +kernel, rfl, by decide +kernel, by decide +kernel⟩
theorem ok_mixed (F : FnT K "_law_mixed" (top 10) f fd) (T : Fx P w K mg base) : FnOk P w K mg base CX0 2 f fd ["hand", "things"] spMixed := by
  have sc := scMixed
  refine F.ok scMixed (fun vs H Q E h => ?_) (fun cdv A outer s H vs Q E hr h => ?_)
  · obtain ⟨_, _, _, _, rfl, _⟩ := h
    rfl
  refine ⟨_, PSs.nox (pss_cons (ps_par (i := 3) (j := 4) (by rfl) sc.nd rfl rfl (by decide) rfl rfl (pa_cons (pe_callTy call_list_of (by rfl) T.list (by decide +kernel) (pa_cons (pv 1) pa_nil)) (pa_cons (pe_lst pa_nil) pa_nil)) (by rfl))
      (pss_cons (ps_for PassesOwn.never rfl (pi_range1 (by rfl) T.range (pa_cons (pe_callB call_len (by rfl) T.len (by decide +kernel) (pa_cons (pv 1) pa_nil)) pa_nil)) (pg_name (i := 2) sc.nd rfl (Or.inl rfl)) (pss_one (ps_expr (pe_bm PySem.F.plainAttrs_list PySem.F.slot_list_append PySem.F.type_list_append mt_append (pv 4) (pa_cons (pe_bm PySem.F.plainAttrs_list PySem.F.slot_list_pop PySem.F.type_list_pop mt_popAt (pv 3) (pa_cons (pe_callH T.h_law_draw hr pass0 (pa_cons (pv 0) (pa_cons (pe_callB call_len (by rfl) T.len (by decide +kernel) (pa_cons (pv 3) pa_nil)) pa_nil))) pa_nil)) pa_nil)))))
      (pss_one (ps_ret (pv 4))))), ?_⟩
  obtain ⟨l, c, p, xs, rfl, pl, hp, hz, hh, k⟩ := h
  refine ⟨_, rfl, p, xs, rfl, .inl (sq_of hp), fun td htd => ⟨by show 0 ≤ sizeLine; decide, fun q hq => ⟨_, _, rfl, ?_⟩⟩⟩
  have ntq : H q = none := fresh_back (Ex.new htd) hq
  have tq : td ≠ q := fun e => by
    rw [← e, upd_same] at hq
    cases hq
  obtain ⟨tl, tc⟩ := hh.new htd
  obtain ⟨ql, qc⟩ := hh.new ntq
  have own : ∀ {H1 : Hp} {r : Addr} {o : HO}, Exl l H H1 → H r = none → Exl l H (upd H1 r o) := fun e n a u na ha => by
    rw [upd_ne (fun z => by rw [z, n] at ha; cases ha)]
    exact e a u na ha
  refine ⟨_, rfl, _, xs.length, rfl, .inl ⟨_, sq_of ?hp2, rfl⟩, xs.length, rfl, by omega, by omega, for_it (walk_range (lo := 0) (n := xs.length)) (fun i σ' H' => ∃ x2 ys zs, σ' = [some (.ref l), some (.ref p), x2, some (.ref td), some (.ref q)] ∧ H' td = some (.lst ys) ∧ H' q = some (.lst zs) ∧ (ys ++ zs).Perm xs ∧ Exl l H H' ∧ HandC H' l c ∧ ys.length = xs.length - i) ?_ ?_ ?_ ?_⟩
  case hp2 =>
    rw [upd_ne (fun z => by rw [← z, upd_ne (fun y => by rw [y, htd] at hp; cases hp), hp] at hq; cases hq), upd_ne (fun y => by rw [y, htd] at hp; cases hp)]
    exact hp
  · exact ⟨_, xs, [], rfl, by rw [upd_ne tq, upd_same], upd_same, by rw [List.append_nil], own (own (Exl.refl l H) htd) ntq, (hh.own tl tc).own ql qc, rfl⟩
  · exact fun _ _ _ _ _ => trivial
  · rintro i x σ' H' H'' hi ⟨x2, ys, zs, rfl, h1, h2, pm, ex, hh', ly⟩ ⟨rfl, _⟩
    have ln : ys.length + zs.length = xs.length := by rw [← List.length_append]; exact pm.length_eq
    refine ⟨_, rfl, .inl ⟨rfl, _, sq_of h2⟩, _, rfl, .inl ⟨rfl, _, sq_of h1⟩, _, rfl, _, rfl, _, ys.length, rfl, .inl ⟨_, sq_of h1, rfl⟩, l, c, (ys.length : Nat), rfl, by omega, by omega, hh', fun f H5 f0 f1 e5 hh5 => ?_⟩
    obtain ⟨j, rfl⟩ : ∃ j : Nat, f = (j : Int) := ⟨f.toNat, by omega⟩
    have hj : j < ys.length := by omega
    have g1 := e5 _ _ tl h1
    have g2 := e5 _ _ ql h2
    have sj : seqIndex? (j : Int) ys.length = some j := by
      have : ¬ ((j : Int) < 0) := by omega
      simp [seqIndex?, this, hj]
    refine ⟨td, ys, (j : Int), j, ys[j], rfl, rfl, g1, by omega, by omega, sj, List.getElem?_eq_getElem hj, ?_⟩
    refine ⟨q, zs, ys[j], rfl, rfl, by rw [upd_ne (Ne.symm tq)]; exact g2, sz_lt (by omega), ?_⟩
    refine ⟨_, ys.eraseIdx j, zs ++ [ys[j]], rfl, by rw [upd_ne tq, upd_same], upd_same, ?_, own (own (ex.trans e5) htd) ntq, (hh5.own tl tc).own ql qc, by rw [List.length_eraseIdx, if_pos hj]; omega⟩
    refine List.Perm.trans ?_ pm
    rw [← List.append_assoc]
    refine (List.perm_append_comm).trans ?_
    rw [List.singleton_append, ← List.cons_append]
    exact (erase_perm ys j hj).append_right zs
  · rintro σ' H' ⟨x2, ys, zs, rfl, h1, h2, pm, ex, hh', ly⟩
    have y0 : ys = [] := List.length_eq_zero_iff.mp (by omega)
    subst y0
    dsimp only
    exact s_ret (ev_var rfl) fun H5 e5 => k q zs H5 pm ntq (ex.trans (Exl.of e5)) (hh'.mono e5) (e5 _ _ h2)
end
end K10
set_option maxHeartbeats 4000000
/-! t[:1] + tuple([.. for x in t[1:]]), told by relations. -/
namespace LL
open PySem PySem.Spec PyProof.Rows L2 Evl
def OneT (x : V) : VP := fun v H => ∃ p, v = .ref p ∧ H p = some (.tup [x])
theorem OneT.mon {x : V} : Mon (OneT x) := fun v H H' e ⟨p, h1, h2⟩ => ⟨p, h1, e _ _ h2⟩
section
variable {K : PySem.W.Frag} {σ : L2.St} {H : Hp} {te ta tb tl : TE} {R S : VP} {Rs Ss : List VP} {a : Addr} {x : V} {xs : List V}
theorem head_cut : cutV (x :: xs) none (some 1) = [x] := by
  unfold cutV
  have e1 : HT.sIx (x :: xs).length 0 none = 0 := rfl
  have e2 : HT.sIx (x :: xs).length (x :: xs).length (some 1) = 1 := by simp [HT.sIx]
  rw [e1, e2]
  simp
theorem head_whole (h : HT.sIx (x :: xs).length 0 none = 0 ∧ HT.sIx (x :: xs).length (x :: xs).length (some 1) = (x :: xs).length) : xs = [] := by
  have e2 : HT.sIx (x :: xs).length (x :: xs).length (some 1) = 1 := by simp [HT.sIx]
  have := h.2
  rw [e2] at this
  cases xs with
  | nil => rfl
  | cons y ys => simp at this
/-- t[:1] -/
theorem x_head (h : Ev te σ H (.ref a)) (hs : H a = some (.tup (x :: xs))) : EvX (L2.tSl (rSlA K) te tNoPart (tPart (tC (.int 1)))) σ H (OneT x) := fun H1 e Q q =>
  h H1 e _ fun H2 e2 => eo_none H2 (Ex.refl H2) _ fun H3 e3 => eo_some (ev_c (σ := σ) (H := H3)) H3 (Ex.refl H3) _ fun H4 e4 =>
    have hx := (e.trans (e2.trans (e3.trans e4))) _ _ hs
    ⟨a, x :: xs, rfl, st_of hx, fun w => q _ H4 (e2.trans (e3.trans e4)) ⟨a, rfl, by rw [head_whole w] at hx; exact hx⟩,
      fun _ p hp => q _ _ ((e2.trans (e3.trans e4)).trans (Ex.new hp)) ⟨p, rfl, by rw [head_cut]; exact upd_same⟩⟩
theorem tail_cut : cutV (x :: xs) (some 1) none = xs := by
  unfold cutV
  have e1 : HT.sIx (x :: xs).length 0 (some 1) = 1 := by simp [HT.sIx]
  have e2 : HT.sIx (x :: xs).length (x :: xs).length none = (x :: xs).length := rfl
  rw [e1, e2]
  simp
theorem tail_part : ¬ (HT.sIx (x :: xs).length 0 (some 1) = 0 ∧ HT.sIx (x :: xs).length (x :: xs).length none = (x :: xs).length) := by
  have e1 : HT.sIx (x :: xs).length 0 (some 1) = 1 := by simp [HT.sIx]
  rw [e1]
  simp
/-- t[1:] -/
theorem eu_tail (h : Ev te σ H (.ref a)) (hs : SqT K H a (x :: xs)) : EvU (L2.tSl (rSlT K) te (tPart (tC (.int 1))) tNoPart) σ H xs := fun H1 e Q q =>
  h H1 e _ fun H2 e2 => eo_some (ev_c (σ := σ) (H := H2)) H2 (Ex.refl H2) _ fun H3 e3 => eo_none H3 (Ex.refl H3) _ fun H4 e4 =>
    have hx := ex_t (e.trans (e2.trans (e3.trans e4))) hs
    ⟨a, x :: xs, rfl, hx, tail_part, fun p hp => q p _ (fresh_back (e2.trans (e3.trans e4)) hp) ((e2.trans (e3.trans e4)).trans (Ex.new hp)) (by rw [tail_cut]; exact upd_same)⟩
abbrev rTupE (K : PySem.W.Frag) : List V → Hp → VK → Prop := fun xs H Q => ∃ p ys, xs = [.ref p] ∧ ((SqL K H p ys ∧ ∀ l, H l = none → Q (.ref l) (upd H l (.tup ys))) ∨ (SqT K H p ys ∧ Q (.ref p) H))
/-- tuple(l), l a list -/
theorem x_tupOf (m : ∀ R ∈ Rs, MonT R) (h : EvX te σ H (LstOf Rs)) : EvX (tCB (rTupE K) (tCons te tNil)) σ H (TupOf Rs) := fun H1 e Q q =>
  h H1 e _ fun v H2 e2 ⟨p, ys, h1, h2, h3⟩ => ⟨p, ys, by rw [h1], .inl ⟨sq_of h2, fun l hl => q _ _ (e2.trans (Ex.new hl)) ⟨l, ys, rfl, upd_same, All2.monT m (TupEx.of (Ex.new hl)) h3⟩⟩⟩
/-- a head before a tuple -/
def HeadT (x : V) (Rs : List VP) : VP := fun v H => ∃ p ys, v = .ref p ∧ H p = some (.tup (x :: ys)) ∧ All2 Rs ys H
theorem x_catH (m : ∀ R ∈ Rs, MonT R) (hl : Rs.length ≤ 90000) (ha : EvX ta σ H (OneT x)) (hb : EvX tb σ H (TupOf Rs)) : EvX (tOp (rCatA K) ta tb) σ H (HeadT x Rs) := fun H1 e Q q =>
  ha H1 e _ fun v H2 e2 r => hb H2 (e.trans e2) _ fun u H3 e3 ⟨p, ys, h1, h2, h3⟩ => by
    obtain ⟨b, rfl, hb⟩ := r
    subst h1
    have hb3 := e3 _ _ hb
    have hlen := h3.len
    refine ⟨b, p, [x], ys, rfl, rfl, st_of hb3, st_of h2, sz_of (by rw [List.length_singleton]; omega), (fun z => nomatch z), (fun _ z => ?_), (fun _ _ l hl => ?_)⟩
    · subst z
      exact q _ H3 (e2.trans e3) ⟨b, [], rfl, hb3, h3⟩
    · exact q _ _ ((e2.trans e3).trans (Ex.new hl)) ⟨l, ys, rfl, upd_same, All2.monT m (TupEx.of (Ex.new hl)) h3⟩
end
end LL
set_option maxHeartbeats 2000000
/-! Drawn demands. -/
namespace K10
open PySem PySem.Spec PyProof.Rows L2 Evl LL
abbrev Pool : Type := List (Str × Int)
def IsPl (x : Str × Int) : VP := fun v H => ∃ a, v = .ref a ∧ H a = some (.tup [.str x.1, .int x.2])
theorem IsPl.monT {x : Str × Int} : MonT (IsPl x) := fun v H H' e ⟨a, h1, h2⟩ => ⟨a, h1, e _ _ h2⟩
theorem pool_monT {ps : Pool} : ∀ R ∈ ps.map IsPl, MonT R := fun R hR => by
  obtain ⟨p, _, rfl⟩ := List.mem_map.mp hR
  exact IsPl.monT
/-- all claims are of the pool -/
def Dm.Over (ps : Pool) : Dm → Prop
  | .claim nm n => (nm, n) ∈ ps
  | .both a b => a.Over ps ∧ b.Over ps
  | .either a b => a.Over ps ∧ b.Over ps
def Dm.deep : Dm → Nat
  | .claim _ _ => 1
  | .both a b => max a.deep b.deep + 1
  | .either a b => max a.deep b.deep + 1
theorem HandC.lst {H : Hp} {l c : Addr} (h : HandC H l c) : ∃ xs, H l = some (.lst xs) := by
  obtain ⟨ns, i, g, m, t, h1, _⟩ := h
  exact ⟨_, h1⟩
theorem exl_tup {H H' : Hp} {l c : Addr} (h : HandC H l c) (e : Exl l H H') : TupEx H H' := fun a xs ha => e a _ (fun z => by
  obtain ⟨ys, hy⟩ := h.lst
  rw [z, hy] at ha
  cases ha) ha
theorem all2_mem {Rs : List VP} {vs : List V} {H : Hp} {v : V} (h : All2 Rs vs H) (hv : v ∈ vs) : ∃ R ∈ Rs, R v H := by
  induction h with
  | nil => cases hv
  | @cons x xs R Rs a b ih =>
    rcases List.mem_cons.mp hv with e | e
    · exact ⟨_, List.mem_cons_self, by rw [e]; exact a⟩
    · obtain ⟨S, hS, q⟩ := ih e
      exact ⟨S, List.mem_cons_of_mem _ hS, q⟩
theorem ifS_or {σ : L2.St} {H : Hp} {t u : TT} {su sw : TS} {D : Ends} {b : Bool} (h : EvT t σ H b) (h1 : b = true → ∀ H1, Ex H H1 → su D σ H1) (h2 : b = false → ∀ H1, Ex H H1 → tIfS u su sw D σ H1) : tIfS (tOr t u) su sw D σ H := h H (Ex.refl H) _ fun H1 e => by
  cases b with
  | true => exact h1 rfl H1 e
  | false => exact h2 rfl H1 e
def spDem (d : Nat) : Sp := fun vs H Q _ => ∃ (l c p : Addr) (e : Nat) (xs : List V) (ps : Pool), vs = [.ref l, .ref p, .int (e : Nat)] ∧ 1 ≤ e ∧ e ≤ d ∧ HandC H l c ∧ p ≠ l ∧ H p = some (.lst xs) ∧ xs ≠ [] ∧ xs.length ≤ 1000 ∧ All2 (ps.map IsPl) xs H ∧
  ∀ v D H', Exl l H H' → HandC H' l c → Dv H' v D → D.Over ps → D.deep ≤ e → Q v H'
structure Fdm (P : Program) (w : World) (K : PySem.W.Frag) (mg : Str → Option Value) (base : Heap) (d : Nat) : Prop where
  h_law_draw : Has P w K mg base CX0 "_law_draw" 1 ["hand", "many"] spDraw
  h_law_some : Has P w K mg base CX0 "_law_some" 2 ["hand", "things"] spSome
  h_law_demand : Has P w K mg base CX0 "_law_demand" (d + 3) ["hand", "pool", "deep"] (spDem d)
section
variable {P : Program} {w : World} {K : PySem.W.Frag} {mg : Str → Option Value} {base : Heap} {f : Addr} {fd : FuncData}
theorem scDemand : FnScope ["hand", "pool", "deep", "word"] ["hand", "pool", "deep"] (defScope (top 12)) := ⟨rfl, rfl, rfl, by decide +kernel, rfl, by decide +kernel, by decide +kernel⟩
theorem ok_demand (d : Nat) (F : FnT K "_law_demand" (top 12) f fd) (T : Fdm P w K mg base d) : FnOk P w K mg base CX0 (d + 4) f fd ["hand", "pool", "deep"] (spDem (d + 1)) := by
  have sc := scDemand
  refine F.ok scDemand (fun vs H Q E h => ?_) (fun cdv A outer s H vs Q E hr h => ?_)
  · obtain ⟨_, _, _, _, _, _, rfl, _⟩ := h
    rfl
  refine ⟨_, PSs.nox (pss_cut (ps_if (PW.pt (pw_or (pt_cmpR op_eq (pv 2) pe_int (nomark _)) (pw_or1 (pt_cmpR op_eq (pe_callH (hj := by omega) T.h_law_draw hr pass0 (pa_cons (pv 0) (pa_cons pe_int pa_nil))) pe_int (nomark _))))) (pss_one (ps_ret (pe_op op_catA (pe_tup (pa_cons pe_str pa_nil)) (pe_callH (hj := by omega) T.h_law_some hr pass0 (pa_cons (pv 0) (pa_cons (pv 1) pa_nil)))))) pss_nil)
      (pss_cons (ps_set (i := 3) sc.nd rfl (Or.inl rfl) (pe_callH (hj := by omega) T.h_law_some hr pass0 (pa_cons (pv 0) (pa_cons (pe_lst (pa_cons pe_str (pa_cons pe_str pa_nil))) pa_nil))))
      (pss_one (ps_ret (pe_tup (pa_cons (pv 3) (pa_cons (pe_callH (hj := by omega) T.h_law_demand hr pass0 (pa_cons (pv 0) (pa_cons (pv 1) (pa_cons (pe_op op_sub (pv 2) pe_int) pa_nil)))) (pa_cons (pe_callH (hj := by omega) T.h_law_demand hr pass0 (pa_cons (pv 0) (pa_cons (pv 1) (pa_cons (pe_op op_sub (pv 2) pe_int) pa_nil)))) pa_nil)))))))), ?_⟩
  obtain ⟨l, c, p, e, xs, ps, rfl, e1, ed, hh, pl, hp, ne, lx, ap, k⟩ := h
  have pc : p ≠ c ∨ True := .inr trivial
  have out : ∀ {K2 : PySem.W.Frag} {E2 : XK} {D : Ends} (H1 : Hp), D.rt = Q → Exl l H H1 → HandC H1 l c → tRet (tOp (rCatA K2) (tTup (tCons (tC (.str "claim")) tNil)) (tCall spSome [] E2 (tCons (tVar 0) (tCons (tVar 1) tNil)))) D [some (.ref l), some (.ref p), some (.int (e : Nat)), none] H1 := fun {K2 E2 D} H1 eD x1 hh1 => by
    refine ⟨by show 1 ≤ sizeLine; decide, fun tp htp => ⟨_, rfl, _, rfl, l, c, p, xs, rfl, pl, .inl ((Ex.new htp) _ _ (x1 _ _ pl hp)), ne, by omega, hh1.mono (Ex.new htp), fun v H2 hv x2 hh2 => ?_⟩⟩
    have x12 : Exl l H H2 := (x1.trans (Exl.of (Ex.new (o := .tup [.str "claim"]) htp))).trans x2
    obtain ⟨R, hR, r⟩ := all2_mem (All2.monT pool_monT (exl_tup hh x12) ap) hv
    obtain ⟨⟨nm, n⟩, hm, rfl⟩ := List.mem_map.mp hR
    obtain ⟨a, rfl, ha⟩ := r
    have ht2 : H2 tp = some (.tup [.str "claim"]) := x2 _ _ (hh1.new htp).1 upd_same
    rw [eD]
    refine ⟨tp, a, _, _, rfl, rfl, st_of ht2, st_of ha, by show 3 ≤ sizeLine; decide, ?_⟩
    refine ⟨(fun z => nomatch z), (fun _ z => nomatch z), fun _ _ r hr => ?_⟩
    have e3 := Ex.new (o := .tup ([.str "claim"] ++ [.str nm, .int n])) hr
    exact k _ (.claim nm n) _ (x12.trans (Exl.of e3)) (hh2.mono e3) (.claim upd_same) hm e1
  refine q_cut (M := fun σ' H' => σ' = [some (.ref l), some (.ref p), some (.int (e : Nat)), none] ∧ 2 ≤ e ∧ Exl l H H' ∧ HandC H' l c) ?first ?rest
  case first =>
    refine ifS_or (b := decide (V.int (e : Nat) = V.int 1)) (et_test (ev_op (ev_var rfl) ev_c (rv_eq rfl))) (fun _ H1 ex1 => out H1 rfl (Exl.of ex1) (hh.mono ex1)) (fun hb H1 ex1 => ?_)
    have e2 : 2 ≤ e := by
      have hb := of_decide_eq_false hb
      have : e ≠ 1 := fun z => hb (by rw [z]; rfl)
      omega
    refine ⟨_, rfl, l, c, 5, rfl, by decide, by decide, hh.mono ex1, fun f1 H3 g0 g1 x3 hh3 => ⟨rfl, _, rfl, ?_⟩⟩
    have x03 : Exl l H H3 := (Exl.of ex1).trans x3
    dsimp only
    by_cases hf : f1 = 0
    · rw [if_pos (by simp [hf])]
      exact out H3 rfl x03 hh3
    · rw [if_neg (by simp [hf])]
      exact ⟨rfl, e2, x03, hh3⟩
  case rest =>
    rintro σ' H' ⟨rfl, e2, ex, hh'⟩
    refine q_asgQ ?_
    refine ⟨_, rfl, by show 2 ≤ sizeLine; decide, fun q hq => ⟨l, c, q, _, rfl, (hh'.new hq).1, .inl upd_same, by simp, by decide, hh'.mono (Ex.new hq), fun wd H2 hw x2 hh2 => ?_⟩⟩
    dsimp only
    have x02 : Exl l H H2 := (ex.trans (Exl.of (Ex.new (o := .lst [.str "both", .str "either"]) hq))).trans x2
    have er : ((e : Nat) : Int) - 1 = ((e - 1 : Nat) : Int) := by omega
    have go : ∀ {G : Hp}, Exl l H G → H ≠ G ∨ True := fun _ => .inr trivial
    refine ⟨_, rfl, _, rfl, _, rfl, _, rfl, _, _, rfl, rfl, l, c, p, e - 1, xs, ps, by show [V.ref l, V.ref p, V.int ((e : Int) - 1)] = _; rw [er], by omega, by omega, hh2, pl, x02 _ _ pl hp, ne, lx, All2.monT pool_monT (exl_tup hh x02) ap, fun v1 D1 H4 x4 hh4 dv1 ov1 dp1 => ?_⟩
    have x04 := x02.trans x4
    refine ⟨_, rfl, _, rfl, _, rfl, _, _, rfl, rfl, l, c, p, e - 1, xs, ps, by show [V.ref l, V.ref p, V.int ((e : Int) - 1)] = _; rw [er], by omega, by omega, hh4, pl, x04 _ _ pl hp, ne, lx, All2.monT pool_monT (exl_tup hh x04) ap, fun v2 D2 H5 x5 hh5 dv2 ov2 dp2 => ⟨by show 3 ≤ sizeLine; decide, fun a ha => ?_⟩⟩
    have x06 := (x04.trans x5).trans (Exl.of (Ex.new (o := .tup [wd, v1, v2]) ha))
    have hh6 := hh5.mono (Ex.new (o := .tup [wd, v1, v2]) ha)
    have t6 := TupEx.of (Ex.new (o := .tup [wd, v1, v2]) ha)
    have dv1' := (dv1.mono (exl_tup hh4 x5)).mono t6
    have dv2' := dv2.mono t6
    simp only [List.mem_cons, List.not_mem_nil, or_false] at hw
    rcases hw with rfl | rfl
    · exact k _ (.both D1 D2) _ x06 hh6 (.both upd_same dv1' dv2') ⟨ov1, ov2⟩ (by show max _ _ + 1 ≤ e; omega)
    · exact k _ (.either D1 D2) _ x06 hh6 (.either upd_same dv1' dv2') ⟨ov1, ov2⟩ (by show max _ _ + 1 ≤ e; omega)
/-- as deep as one likes -/
theorem dem_all (F : FnT K "_law_demand" (top 12) f fd) (h4 : Has P w K mg base CX0 "_law_draw" 1 ["hand", "many"] spDraw) (h5 : Has P w K mg base CX0 "_law_some" 2 ["hand", "things"] spSome)
    (hm : mg "_law_demand" = some (.ref f)) (hk : PySem.W.keepIn K (.ref f) = true) (hb : Binds K fd ["hand", "pool", "deep"] []) : ∀ d, FnOk P w K mg base CX0 (d + 3) f fd ["hand", "pool", "deep"] (spDem d)
  | 0 => ⟨fun vs H Q E h => by obtain ⟨_, _, _, _, _, _, rfl, _⟩ := h; rfl, fun A outer s H args us vs Q E hr he hbb hv h => by
    obtain ⟨_, _, _, _, _, _, _, h1, h2, _⟩ := h
    omega⟩
  | d + 1 => ok_demand d F ⟨h4, h5, ⟨f, fd, hm, hk, hb, dem_all F h4 h5 hm hk hb d⟩⟩
end
end K10
set_option maxHeartbeats 2000000
/-! A demand's own truth by a lot of claims. -/
namespace K10
open PySem PySem.Spec PyProof.Rows L2 Evl LL
def plD (x : Str × Int) : PyData := .tuple [.str x.1, .int x.2]
theorem plD_eqv (x y : Str × Int) : (plD x).eqv (plD y) = decide (x = y) := by
  obtain ⟨a, b⟩ := x
  obtain ⟨c, d⟩ := y
  simp only [plD, PyData.eqv, PyData.eqvAll, Bool.and_true]
  by_cases h1 : a = c
  · by_cases h2 : b = d
    · simp [h1, h2]
    · simp [h1, h2]
  · simp [h1]
theorem dp_pls {K : PySem.W.Frag} {H : Hp} : ∀ {ps : Pool} {vs : List V}, All2 (ps.map IsPl) vs H → DpAll K H vs (ps.map plD)
  | [], _, .nil => .nil
  | _ :: _, _, .cons h hs => by
    obtain ⟨a, rfl, ha⟩ := h
    exact .cons (.tup (st_of ha) (.cons (.str _) (.cons (.int _) .nil))) (dp_pls hs)
theorem plD_lay {x : Str × Int} (h : PyData.strOk x.1 = true) : (plD x).canLay0 = true ∧ (plD x).depth ≤ 2 := by
  simp [plD, PyData.canLay0, PyData.canLayAll0, PyData.depth, PyData.depthAll, h]
theorem pls_lay : ∀ ps : Pool, (∀ x ∈ ps, PyData.strOk x.1 = true) → PyData.canLayAll0 (ps.map plD) = true ∧ PyData.depthAll (ps.map plD) ≤ 2
  | [], _ => by simp [PyData.canLayAll0, PyData.depthAll]
  | x :: ps, h => by
    have a := pls_lay ps fun y hy => h y (List.mem_cons_of_mem _ hy)
    have b := plD_lay (h x List.mem_cons_self)
    simp only [List.map_cons, PyData.canLayAll0, PyData.depthAll, b.1, a.1]
    exact ⟨rfl, by have := a.2; have := b.2; omega⟩
theorem pls_shaped {ps : Pool} (h : ∀ x ∈ ps, PyData.strOk x.1 = true) : SeqAt.shaped (.tuple (ps.map plD)) = true := by
  obtain ⟨a, b⟩ := pls_lay ps h
  simp only [SeqAt.shaped, PyData.canLay0, PyData.depth, a, Bool.true_and]
  exact decide_eq_true (by omega)
theorem pl_shaped {x : Str × Int} (h : PyData.strOk x.1 = true) : SeqAt.shaped (plD x) = true := by
  obtain ⟨a, b⟩ := plD_lay h
  simp only [SeqAt.shaped, a, Bool.true_and]
  exact decide_eq_true (by omega)
theorem pls_any (x : Str × Int) (ps : Pool) : ((ps.map plD).any fun z => z.eqv (plD x)) = decide (x ∈ ps) := by
  induction ps with
  | nil => rfl
  | cons y ps ih =>
    rw [List.map_cons, List.any_cons, ih, plD_eqv]
    by_cases e : y = x
    · simp [e]
    · have e2 : ¬ x = y := fun z => e z.symm
      simp [e, e2]
/-- true by just these claims -/
def Dm.On (lt : Pool) : Dm → Prop
  | .claim nm n => (nm, n) ∈ lt
  | .both a b => a.On lt ∧ b.On lt
  | .either a b => a.On lt ∨ b.On lt
def OnO (lt : Pool) : Option Dm → Prop
  | none => True
  | some d => d.On lt
def OverO (ps : Pool) : Option Dm → Prop
  | none => True
  | some d => d.Over ps
def deepO : Option Dm → Nat
  | none => 1
  | some d => d.deep
def spTruth (d : Nat) : Sp := fun vs H Q _ => ∃ (v : V) (o : Option Dm) (q : Addr) (ls : List V) (lt ps : Pool), vs = [v, .ref q] ∧ IsDO o v H ∧ deepO o ≤ d ∧ OverO ps o ∧ (∀ x ∈ ps, PyData.strOk x.1 = true) ∧ H q = some (.tup ls) ∧ All2 (lt.map IsPl) ls H ∧ (∀ x ∈ lt, PyData.strOk x.1 = true) ∧ ∀ r H', Ex H H' → (r = true ↔ OnO lt o) → Q (.bl r) H'
structure Ftr (P : Program) (w : World) (K : PySem.W.Frag) (mg : Str → Option Value) (base : Heap) (d : Nat) : Prop where
  h_law_truth : Has P w K mg base CX0 "_law_truth" d ["demand", "lot"] (spTruth d)
section
variable {P : Program} {w : World} {K : PySem.W.Frag} {mg : Str → Option Value} {base : Heap} {f : Addr} {fd : FuncData}
theorem scTruth : FnScope ["demand", "lot", "one", "other"] ["demand", "lot"] (defScope (top 17)) := ⟨rfl, rfl, rfl, by decide +kernel, rfl, by decide +kernel, by decide +kernel⟩
theorem ok_truth (d : Nat) (F : FnT K "_law_truth" (top 17) f fd) (T : Ftr P w K mg base d) : FnOk P w K mg base CX0 (d + 1) f fd ["demand", "lot"] (spTruth (d + 1)) := by
  have sc := scTruth
  refine F.ok scTruth (fun vs H Q E h => ?_) (fun cdv A outer s H vs Q E hr h => ?_)
  · obtain ⟨_, _, _, _, _, _, rfl, _⟩ := h
    rfl
  have hu := hr.un
  have hu : (A.deeper (envOfC "_law_truth" (defScope (top 17)) s.heap.objs.size f cdv)).units + 65 < cLine := by omega
  refine ⟨_, PSs.nox (pss_cons (ps_if (pt_cmpR op_isN (pv 0) pe_non (nomark _)) (pss_one (ps_ret pe_bl)) pss_nil)
      (pss_cons (ps_if (pt_cmpR op_eq (pe_ix ix_tup (pv 0) pe_int (fun _ _ => rfl)) pe_str (nomark _)) (pss_one (ps_ret (pe_cmpR (op_inDT hu) (pe_slice sl_tup (pv 0) (po_some pe_int) po_none) (pv 1) (by rfl)))) pss_nil)
      (pss_cons (ps_par (i := 2) (j := 3) (by rfl) sc.nd rfl rfl (by decide) rfl rfl (pa_cons (pe_callH (hj := by omega) T.h_law_truth hr pass0 (pa_cons (pe_ix ix_tup (pv 0) pe_int (fun _ _ => rfl)) (pa_cons (pv 1) pa_nil))) (pa_cons (pe_callH (hj := by omega) T.h_law_truth hr pass0 (pa_cons (pe_ix ix_tup (pv 0) pe_int (fun _ _ => rfl)) (pa_cons (pv 1) pa_nil))) pa_nil)) (by rfl))
      (pss_one (ps_ret (pe_ifExp (pt_cmpR op_eq (pe_ix ix_tup (pv 0) pe_int (fun _ _ => rfl)) pe_str (nomark _)) (pe_and (pv 2) (pe_one (pv 3))) (pe_or (pv 2) (pe_one (pv 3))))))))), ?_⟩
  obtain ⟨v, o, q, ls, lt, ps, rfl, hv, hd, ov, sps, hq, al, slt, k⟩ := h
  cases o with
  | none =>
    have hv : v = .non := hv
    subst hv
    exact q_when (b := true) (et_is (et_test (ev_op (ev_var rfl) ev_c (fun H1 _ Q q => ⟨rfl, q H1 (Ex.refl H1)⟩))) (by simp)) (fun _ H1 e1 => s_ret ev_c fun H2 e2 => k true H2 (e1.trans e2) ⟨fun _ => trivial, fun _ => rfl⟩) (fun z => nomatch z)
  | some D =>
    have hv : Dv H v D := hv
    have ov : D.Over ps := ov
    have hd : D.deep ≤ d + 1 := hd
    cases hv with
    | @claim a nm n h =>
      refine q_when (b := false) (et_is (et_test (ev_op (ev_var rfl) ev_c (fun H1 _ Q q => ⟨rfl, q H1 (Ex.refl H1)⟩))) (by simp)) (fun z => nomatch z) (fun _ H1 e1 => ?_)
      refine q_when (b := true) (et_is (et_test (ev_op (ev_op (ev_var rfl) ev_c (rv_ixT (st_of (e1 _ _ h)) (atI_nat (j := 0) rfl))) ev_c (rv_eq rfl))) (by simp)) (fun _ H2 e2 => ?_) (fun z => nomatch z)
      have e12 := e1.trans e2
      refine ⟨_, rfl, 1, rfl, a, .str "claim" :: [.str nm, .int n], rfl, st_of (e12 _ _ h), cut1_no _ _, fun tp htp => ?_⟩
      rw [cut1]
      have en := Ex.new (o := .tup [.str nm, .int n]) htp
      have e13 := e12.trans en
      refine ⟨_, rfl, plD (nm, n), lt.map plD, .tup (st_of upd_same) (.cons (.str nm) (.cons (.int n) .nil)), .tup (st_of (e13 _ _ hq)) (dp_pls (All2.monT pool_monT (TupEx.of e13) al)), pl_shaped (sps (nm, n) ov), pls_shaped slt, ?_⟩
      rw [pls_any]
      exact k _ _ e13 (by show _ ↔ (nm, n) ∈ lt; simp)
    | @both a u1 u2 x y h hx hy =>
      have hd : max x.deep y.deep + 1 ≤ d + 1 := hd
      have ov1 : x.Over ps := ov.1
      have ov2 : y.Over ps := ov.2
      refine q_when (b := false) (et_is (et_test (ev_op (ev_var rfl) ev_c (fun H1 _ Q q => ⟨rfl, q H1 (Ex.refl H1)⟩))) (by simp)) (fun z => nomatch z) (fun _ H1 e1 => ?_)
      refine q_when (b := false) (et_is (et_test (ev_op (ev_op (ev_var rfl) ev_c (rv_ixT (st_of (e1 _ _ h)) (atI_nat (j := 0) rfl))) ev_c (rv_eq rfl))) (by decide)) (fun z => nomatch z) (fun _ H2 e2 => ?_)
      have e12 := e1.trans e2
      refine ⟨_, rfl, a, _, 1, u1, rfl, rfl, st_of (e12 _ _ h), atI_nat (j := 1) rfl, _, rfl, u1, some x, q, ls, lt, ps, rfl, hx.mono (TupEx.of e12), by show x.deep ≤ d; omega, ov1, sps, e12 _ _ hq, All2.monT pool_monT (TupEx.of e12) al, slt, fun b1 H3 e3 i1 => ?_⟩
      have e13 := e12.trans e3
      refine ⟨_, rfl, a, _, 2, u2, rfl, rfl, st_of (e13 _ _ h), atI_nat (j := 2) rfl, _, rfl, u2, some y, q, ls, lt, ps, rfl, hy.mono (TupEx.of e13), by show y.deep ≤ d; omega, ov2, sps, e13 _ _ hq, All2.monT pool_monT (TupEx.of e13) al, slt, fun b2 H4 e4 i2 => ⟨_, _, rfl, ?_⟩⟩
      have e14 := e13.trans e4
      dsimp only
      have i1 : b1 = true ↔ x.On lt := i1
      have i2 : b2 = true ↔ y.On lt := i2
      refine s_ret (v := .bl (b1 && b2)) (ev_if2 (b := true) (et_is (et_test (ev_op (ev_op (ev_var rfl) ev_c (rv_ixT (st_of (e14 _ _ h)) (atI_nat (j := 0) rfl))) ev_c (rv_eq rfl))) (by decide)) (fun _ => ev_andV (ev_var rfl) (fun _ => ev_var rfl)) (fun z => nomatch z)) fun H5 e5 => k _ H5 (e14.trans e5) ?_
      show _ ↔ Dm.On lt _
      unfold Dm.On
      rw [← i1, ← i2]
      simp
    | @either a u1 u2 x y h hx hy =>
      have hd : max x.deep y.deep + 1 ≤ d + 1 := hd
      have ov1 : x.Over ps := ov.1
      have ov2 : y.Over ps := ov.2
      refine q_when (b := false) (et_is (et_test (ev_op (ev_var rfl) ev_c (fun H1 _ Q q => ⟨rfl, q H1 (Ex.refl H1)⟩))) (by simp)) (fun z => nomatch z) (fun _ H1 e1 => ?_)
      refine q_when (b := false) (et_is (et_test (ev_op (ev_op (ev_var rfl) ev_c (rv_ixT (st_of (e1 _ _ h)) (atI_nat (j := 0) rfl))) ev_c (rv_eq rfl))) (by decide)) (fun z => nomatch z) (fun _ H2 e2 => ?_)
      have e12 := e1.trans e2
      refine ⟨_, rfl, a, _, 1, u1, rfl, rfl, st_of (e12 _ _ h), atI_nat (j := 1) rfl, _, rfl, u1, some x, q, ls, lt, ps, rfl, hx.mono (TupEx.of e12), by show x.deep ≤ d; omega, ov1, sps, e12 _ _ hq, All2.monT pool_monT (TupEx.of e12) al, slt, fun b1 H3 e3 i1 => ?_⟩
      have e13 := e12.trans e3
      refine ⟨_, rfl, a, _, 2, u2, rfl, rfl, st_of (e13 _ _ h), atI_nat (j := 2) rfl, _, rfl, u2, some y, q, ls, lt, ps, rfl, hy.mono (TupEx.of e13), by show y.deep ≤ d; omega, ov2, sps, e13 _ _ hq, All2.monT pool_monT (TupEx.of e13) al, slt, fun b2 H4 e4 i2 => ⟨_, _, rfl, ?_⟩⟩
      have e14 := e13.trans e4
      dsimp only
      have i1 : b1 = true ↔ x.On lt := i1
      have i2 : b2 = true ↔ y.On lt := i2
      refine s_ret (v := .bl (b1 || b2)) (ev_if2 (b := false) (et_is (et_test (ev_op (ev_op (ev_var rfl) ev_c (rv_ixT (st_of (e14 _ _ h)) (atI_nat (j := 0) rfl))) ev_c (rv_eq rfl))) (by decide)) (fun z => nomatch z) (fun _ => ev_orV (ev_var rfl) (fun _ => ev_var rfl))) fun H5 e5 => k _ H5 (e14.trans e5) ?_
      show _ ↔ Dm.On lt _
      unfold Dm.On
      rw [← i1, ← i2]
      simp
/-- as deep as one likes -/
theorem truth_all (F : FnT K "_law_truth" (top 17) f fd) (hm : mg "_law_truth" = some (.ref f)) (hk : PySem.W.keepIn K (.ref f) = true) (hb : Binds K fd ["demand", "lot"] []) : ∀ d, FnOk P w K mg base CX0 d f fd ["demand", "lot"] (spTruth d)
  | 0 => ⟨fun vs H Q E h => by obtain ⟨_, _, _, _, _, _, rfl, _⟩ := h; rfl, fun A outer s H args us vs Q E hr he hbb hv h => by
    obtain ⟨_, o, _, _, _, _, _, _, h2, _⟩ := h
    cases o with
    | none => exact absurd h2 (by decide)
    | some D =>
      have h2 : D.deep ≤ 0 := h2
      cases D with
      | claim _ _ => exact absurd h2 (by show ¬ 1 ≤ 0; decide)
      | both _ _ => exact absurd h2 (by show ¬ (_ + 1 ≤ 0); omega)
      | either _ _ => exact absurd h2 (by show ¬ (_ + 1 ≤ 0); omega)⟩
  | d + 1 => ok_truth d F ⟨⟨f, fd, hm, hk, hb, truth_all F hm hk hb d⟩⟩
end
end K10
set_option maxHeartbeats 4000000
/-! Sets of nested tuples (numbers, texts, None, such tuples again): the table over NestedKey. -/
namespace LL
open PySem PySem.Spec PyProof.Rows L2
/-- where an element stands, and what it is -/
abbrev Elm := Addr × NestedKey
def El (h : Heap) (e : Elm) : Prop := NestedIs h e.2 (.ref e.1) ∧ e.2.depth ≤ 8
def ents (w : World) (L : List Elm) : List (Int × Value) := L.map fun e => (e.2.hash w, Value.ref e.1)
theorem El.stays {h h' : Heap} {e : Elm} (x : El h e) (k : ∀ b o, h.get? b = some o → h'.get? b = some o) : El h' e := ⟨NestedIs.at (fun b o _ _ q _ => k b o q) _ _ x.1, x.2⟩
/-- a tuple is not the set that is written -/
theorem El.apart {h h' : Heap} {e : Elm} {a : Addr} {o : Obj} {es : Array (Int × Value)} {ep : Nat} {t : SetTable} (x : El h e) (ho : h.get? a = some o) (hd : o.data = .set es ep t) (sb : Heap.SameBut a h h') : El h' e :=
  ⟨NestedIs.at (fun b q vs n hb hq => by
    have ne : b ≠ a := fun z => by
      subst z
      cases Option.some.inj (hb.symm.trans ho)
      rw [hd] at hq
      cases hq
    rw [sb.2 b ne]
    exact hb) _ _ x.1, x.2⟩
theorem El.one {h : Heap} {e f : Elm} (x : El h e) (y : El h f) (q : e.1 = f.1) : e = f := by
  obtain ⟨a, k⟩ := e
  obtain ⟨b, l⟩ := f
  cases q
  have z : k = l := NestedIs.inj _ _ _ x.1 y.1
  rw [z]
section
variable {P : Program} {w : World} {A : Around} {E : Value → Shared → Prop} {s : Shared}
/-! ### asked of an element: no statement of a class; some flag of its hash -/
def NoCls (P : Program) (w : World) (n : Nat) (s : Shared) (v : Value) : Prop := ∀ (A : Around) (E : Value → Shared → Prop) (Q : Bool → Shared → Prop), Q false s → wpAny (model P w) A (ofAClassStatement n v) Q E s
def SomeFlag (P : Program) (w : World) (n : Nat) (s : Shared) (v : Value) : Prop := ∀ (A : Around) (E : Value → Shared → Prop) (Q : Bool → Shared → Prop), (∀ b, Q b s) → wpAny (model P w) A (hashByValue n v) Q E s
theorem NoCls.tup {n m : Nat} {a : Addr} {o : Obj} {vs : Array Value} (ho : s.heap.get? a = some o) (hc : o.cls = .type "tuple") (hd : o.data = .seq vs m) (all_ : ∀ v ∈ vs.toList, NoCls P w n s v) : NoCls P w (n + 1) s (.ref a) := fun A E Q q => by
  have isT : s.TypeIs (.ref a) "tuple" := ⟨o, ho, hc⟩
  unfold ofAClassStatement
  refine wpAny_bind (wpAny_typeOf isT ?_)
  have same : (("tuple" : String) == "tuple") = true := rfl
  simp only [same, if_true, Bool.not_true, Bool.false_eq_true, if_false]
  try refine wpAny_bind (wpAny_pure ?_)
  try simp only [Bool.not_true, Bool.false_eq_true, if_false]
  show wpAny _ _ (seqItems? (.ref a) >>= _) _ _ s
  refine wpAny_bind (wpAny_seqItems ho hd ?_)
  dsimp only
  refine wpAny_bind ?_
  show wpAny _ _ (forIn vs _ _) _ _ s
  rw [← Array.forIn_toList]
  refine wpAny_forIn_list _ (fun left r s1 => s1 = s ∧ r.1 = none ∧ ∀ v ∈ left, NoCls P w n s v) _ ?_ ?_ _ _ ⟨rfl, rfl, all_⟩
  · rintro v left r s1 ⟨rfl, hr, al⟩
    refine wpAny_bind (al v List.mem_cons_self _ _ _ ?_)
    simp only [Bool.false_eq_true, if_false]
    exact wpAny_pure ⟨rfl, rfl, fun u hu => al u (List.mem_cons_of_mem v hu)⟩
  · rintro ⟨r1, r2⟩ s1 ⟨rfl, hr, _⟩
    dsimp only at hr
    subst hr
    exact wpAny_pure q
theorem SomeFlag.tup {n m : Nat} {a : Addr} {o : Obj} {vs : Array Value} (ho : s.heap.get? a = some o) (hc : o.cls = .type "tuple") (hd : o.data = .seq vs m) (all_ : ∀ v ∈ vs.toList, SomeFlag P w n s v) : SomeFlag P w (n + 1) s (.ref a) := fun A E Q q => by
  have isT : s.TypeIs (.ref a) "tuple" := ⟨o, ho, hc⟩
  unfold hashByValue
  refine wpAny_bind (wpAny_specialOf isT F.slot_tuple_hash.lookup ?_)
  show wpAny _ _ (seqItems? (.ref a) >>= _) _ _ s
  refine wpAny_bind (wpAny_seqItems ho hd ?_)
  refine wpAny_bind ?_
  show wpAny _ _ (forIn vs _ _) _ _ s
  rw [← Array.forIn_toList]
  refine wpAny_forIn_list _ (fun left r s1 => s1 = s ∧ r.1 = none ∧ ∀ v ∈ left, SomeFlag P w n s v) _ ?_ ?_ _ _ ⟨rfl, rfl, all_⟩
  · rintro v left r s1 ⟨rfl, hr, al⟩
    refine wpAny_bind (al v List.mem_cons_self _ _ _ fun b => ?_)
    cases b with
    | true =>
      simp only [Bool.not_true, Bool.false_eq_true, if_false]
      exact wpAny_pure ⟨rfl, rfl, fun u hu => al u (List.mem_cons_of_mem v hu)⟩
    | false =>
      simp only [Bool.not_false, if_true]
      exact wpAny_pure (wpAny_pure (q false))
  · rintro ⟨r1, r2⟩ s1 ⟨rfl, hr, _⟩
    dsimp only at hr
    subst hr
    exact wpAny_pure (q true)
mutual
theorem noCls : ∀ (k : NestedKey) (v : Value) (n : Nat), NestedIs s.heap k v → k.depth ≤ n → NoCls P w n s v
  | .none, _, n, x, _ => by cases x; exact fun A E Q q => by cases n <;> exact wpAny_pure q
  | .num _, _, n, x, _ => by cases x <;> exact fun A E Q q => by cases n <;> exact wpAny_pure q
  | .text _, _, n, x, _ => by cases x; exact fun A E Q q => by cases n <;> exact wpAny_pure q
  | .tup ks, _, n, x, hn => by
    cases x with
    | tup h1 h2 h3 h4 =>
      unfold NestedKey.depth at hn
      obtain ⟨n, rfl⟩ : ∃ m, n = m + 1 := ⟨n - 1, by omega⟩
      exact .tup h1 h2 h3 (noClsL ks _ n h4 (by omega))
theorem noClsL : ∀ (ks : List NestedKey) (vs : List Value) (n : Nat), NestedAll s.heap ks vs → NestedKey.depthAll ks ≤ n → ∀ v ∈ vs, NoCls P w n s v
  | [], _, n, x, _, v, hv => by cases x; cases hv
  | k :: ks, _, n, x, hn, v, hv => by
    cases x with
    | cons x1 x2 =>
      unfold NestedKey.depthAll at hn
      cases hv with
      | head => exact noCls k _ n x1 (by omega)
      | tail _ hv => exact noClsL ks _ n x2 (by omega) v hv
end
mutual
theorem someFlag : ∀ (k : NestedKey) (v : Value) (n : Nat), NestedIs s.heap k v → k.depth ≤ n → SomeFlag P w n s v
  | .none, _, n, x, _ => by cases x; exact fun A E Q q => by cases n <;> exact wpAny_pure (q _)
  | .num _, _, n, x, _ => by cases x <;> exact fun A E Q q => by cases n <;> exact wpAny_pure (q _)
  | .text _, _, n, x, _ => by cases x; exact fun A E Q q => by cases n <;> exact wpAny_pure (q _)
  | .tup ks, _, n, x, hn => by
    cases x with
    | tup h1 h2 h3 h4 =>
      unfold NestedKey.depth at hn
      obtain ⟨n, rfl⟩ : ∃ m, n = m + 1 := ⟨n - 1, by omega⟩
      exact .tup h1 h2 h3 (someFlagL ks _ n h4 (by omega))
theorem someFlagL : ∀ (ks : List NestedKey) (vs : List Value) (n : Nat), NestedAll s.heap ks vs → NestedKey.depthAll ks ≤ n → ∀ v ∈ vs, SomeFlag P w n s v
  | [], _, n, x, _, v, hv => by cases x; cases hv
  | k :: ks, _, n, x, hn, v, hv => by
    cases x with
    | cons x1 x2 =>
      unfold NestedKey.depthAll at hn
      cases hv with
      | head => exact someFlag k _ n x1 (by omega)
      | tail _ hv => exact someFlagL ks _ n x2 (by omega) v hv
end
/-- nobody sees a search among them -/
theorem unseen {e : Elm} (x : El s.heap e) {ys : List Value} (al : ∀ y ∈ ys, ∃ f : Elm, y = .ref f.1 ∧ El s.heap f) {Q : Bool → Shared → Prop} (q : Q false s) : wpAny (model P w) A (searchCouldBeSeen (.ref e.1) ys) Q E s := by
  unfold searchCouldBeSeen
  refine wpAny_bind ?_
  refine wpAny_forIn_list _ (fun left r s1 => s1 = s ∧ r.1 = none ∧ ∀ y ∈ left, ∃ f : Elm, y = .ref f.1 ∧ El s.heap f) _ ?_ ?_ _ _ ⟨rfl, rfl, al⟩
  · rintro y left r s1 ⟨rfl, hr, al⟩
    obtain ⟨f, rfl, fe⟩ := al y List.mem_cons_self
    have more : ∀ y ∈ left, ∃ f : Elm, y = .ref f.1 ∧ El s1.heap f := fun u hu => al u (List.mem_cons_of_mem _ hu)
    dsimp only
    by_cases c : (e.1 == f.1 || (carriedByValue (.ref e.1) && carriedByValue (.ref f.1))) = true
    · exact wp_if_pos c (wpAny_pure ⟨rfl, rfl, more⟩)
    · refine wp_if_neg c ?_
      refine wpAny_bind ((nestedKind P w).quiet (k := e.2) x ?_)
      simp only [Bool.not_true, Bool.false_eq_true, if_false]
      refine wpAny_bind ((nestedKind P w).quiet (k := f.2) fe ?_)
      simp only [Bool.not_true, Bool.false_eq_true, if_false]
      refine wpAny_bind (noCls _ _ 8 x.1 x.2 _ _ _ ?_)
      simp only [Bool.false_eq_true, if_false]
      refine wpAny_bind (noCls _ _ 8 fe.1 fe.2 _ _ _ ?_)
      simp only [Bool.false_eq_true, if_false]
      exact wpAny_pure ⟨rfl, rfl, more⟩
  · rintro ⟨r1, r2⟩ s1 ⟨rfl, hr, _⟩
    dsimp only at hr
    subst hr
    exact wpAny_pure q
/-! ### the set -/
structure SetN (w : World) (h : Heap) (a : Addr) (L : List Elm) (es : Array (Int × Value)) (ep : Nat) (t : SetTable) : Prop where
  obj : ∃ o, h.get? a = some o ∧ o.ExactSet ∧ o.data = .set es ep t
  ents : es.toList = ents w L
  tab : TabOk t (L.map fun e => e.2.hash w)
  uniq : (L.map (·.2)).Nodup
  els : ∀ e ∈ L, El h e
  led : w.params.followText "set-order" = true ∨ t.led = true
  wide : L.length * 5 < t.mask * 3
  few : L.length < 64
variable {a : Addr} {L : List Elm} {es : Array (Int × Value)} {ep : Nat} {t : SetTable}
theorem ents_len {L : List Elm} {es : Array (Int × Value)} (h : es.toList = ents w L) : es.size = L.length := by
  rw [← Array.length_toList, h]
  exact List.length_map _
theorem ents_get {L : List Elm} {es : Array (Int × Value)} (h : es.toList = ents w L) {i : Nat} {e : Elm} (he : L[i]? = some e) : es[i]? = some (e.2.hash w, Value.ref e.1) := by
  rw [← Array.getElem?_toList, h]
  show (L.map _)[i]? = _
  rw [List.getElem?_map, he]
  rfl
theorem fits_of_tab {hs : List Int} (T : TabOk t hs) {n : Nat} (hn : hs.length = n) (hm : n ≤ t.mask) : t.fits n = true := by
  have z := T.sz
  unfold SetTable.fits SetTable.fill
  rw [T.dm, Bool.and_eq_true, beq_iff_eq, decide_eq_true_eq]
  show t.place.size = n ∧ t.place.size + 0 ≤ t.mask
  omega
theorem SetN.fits (R : SetN w s.heap a L es ep t) : t.fits es.size = true := by
  have z := R.wide
  exact fits_of_tab R.tab (by rw [List.length_map, ents_len R.ents]) (by rw [ents_len R.ents]; omega)
theorem SetN.stood {h h' : Heap} (R : SetN w h a L es ep t) (ka : ∀ o, h.get? a = some o → h'.get? a = some o) (ke : ∀ e ∈ L, El h' e) : SetN w h' a L es ep t := by
  obtain ⟨⟨o, h1, h2⟩, b1, b2, b3, _, b5, b6, b7⟩ := R
  exact ⟨⟨o, ka o h1, h2⟩, b1, b2, b3, ke, b5, b6, b7⟩
/-! ### the places of the way of a hash -/
def pos (m : Nat) (h : Int) (c : Nat) : SetTable.Probe := nth m (runAt m (SetTable.bits h % (m + 1)) (SetTable.bits h)) c
theorem pos_on (m : Nat) (h : Int) (c q : Nat) : nth m (pos m h c) q = pos m h (c + q) := (nth_add m c _ q).symm
theorem pos_j (m : Nat) (h : Int) (c : Nat) : (pos m h c).j = way m h c := rfl
theorem nth_dm (m : Nat) : ∀ (n : Nat) (p : SetTable.Probe), p.dummy = none → (nth m p n).dummy = none
  | 0, _, h => h
  | n + 1, p, h => nth_dm m n (adv m p) (by unfold adv; split <;> exact h)
theorem pos_dm (m : Nat) (h : Int) (c : Nat) : (pos m h c).dummy = none := nth_dm m c _ rfl
/-- what is met from the c-th place on: an element of this hash, or the free place -/
theorem met (R : SetN w s.heap a L es ep t) {h : Int} {K c : Nat} (hK : K < 10 * SetTable.turns t.mask) (free : way t.mask h K ∉ t.place.toList) (full : ∀ c, c < K → way t.mask h c ∈ t.place.toList) (hc : c ≤ K) :
    (∃ (q i : Nat) (e : Elm), c + q < K ∧ t.place.toList[i]? = some (way t.mask h (c + q)) ∧ L[i]? = some e ∧ e.2.hash w = h ∧ (∀ (q' j : Nat) (f : Elm), q' < q → t.place.toList[j]? = some (way t.mask h (c + q')) → L[j]? = some f → f.2.hash w ≠ h) ∧
      t.probe (fun i => (es[i]?.map (·.1)).getD 0) h (pos t.mask h c) = some (.candidate (way t.mask h (c + q)) i (pos t.mask h (c + (q + 1))))) ∨
    ((∀ (c' j : Nat) (f : Elm), c ≤ c' → c' < K → t.place.toList[j]? = some (way t.mask h c') → L[j]? = some f → f.2.hash w ≠ h) ∧ t.probe (fun i => (es[i]?.map (·.1)).getD 0) h (pos t.mask h c) = some (.empty (way t.mask h K) none)) := by
  have jq : ∀ q, (nth t.mask (pos t.mask h c) q).j = way t.mask h (c + q) := fun q => by rw [pos_on]; rfl
  have hsh : ∀ (i : Nat) (e : Elm), L[i]? = some e → (fun i => (es[i]?.map (·.1)).getD 0) i = e.2.hash w := fun i e he => by
    dsimp only
    rw [ents_get R.ents he]
    rfl
  have lens : t.place.toList.length = L.length := by rw [Array.length_toList, R.tab.sz, List.length_map]
  rcases go_spec t R.tab.ris R.tab.dm (fun i => (es[i]?.map (·.1)).getD 0) h (10 * SetTable.turns t.mask) (K - c) (pos t.mask h c) (pos_dm _ _ _) (by omega) (fun q hq => by rw [jq]; exact full _ (by omega)) (by rw [jq, show c + (K - c) = K by omega]; exact free) with ⟨q, i, h1, h2, h3, h4, h5⟩ | ⟨h1, h2⟩
  · rw [jq] at h2
    have il : i < L.length := by rw [← lens]; exact (List.getElem?_eq_some_iff.mp h2).1
    have ei := List.getElem?_eq_getElem il
    refine .inl ⟨q, i, L[i], by omega, h2, ei, (hsh i _ ei).symm.trans h3, fun q' j f hq hj hf z => h4 q' j hq (by rw [jq]; exact hj) ((hsh j f hf).trans z), ?_⟩
    rw [jq, pos_on] at h5
    exact h5
  · refine .inr ⟨fun c' j f hc' hK' hj hf z => h1 (c' - c) j (by omega) (by rw [jq, show c + (c' - c) = c' by omega]; exact hj) ((hsh j f hf).trans z), ?_⟩
    rw [jq, show c + (K - c) = K by omega] at h2
    exact h2
/-- the search, from the c-th place on -/
theorem look_from (R : SetN w s.heap a L es ep t) {x : Elm} (hx : El s.heap x) (hu : A.units + 8 < cLine) {K : Nat} (hK : K < 10 * SetTable.turns t.mask) (free : way t.mask (x.2.hash w) K ∉ t.place.toList) (full : ∀ c, c < K → way t.mask (x.2.hash w) c ∈ t.place.toList)
    {Q : SetFound → Shared → Prop} (yes : x.2 ∈ L.map (·.2) → Q (.there none) s) (no : x.2 ∉ L.map (·.2) → Q (.free (way t.mask (x.2.hash w) K) false) s) :
    ∀ (f c : Nat) (stand : Option SetTable.Probe), stand.getD (t.probeStart (x.2.hash w)) = pos t.mask (x.2.hash w) c → c ≤ K → K < f + c →
      (∀ (i : Nat) (e : Elm), L[i]? = some e → e.2 = x.2 → ∃ c', c ≤ c' ∧ c' < K ∧ t.place.toList[i]? = some (way t.mask (x.2.hash w) c')) → wpAny (model P w) A (setSearchFrom a (.ref x.1) (x.2.hash w) true f stand) Q E s
  | 0, c, _, _, h1, h2, _ => by omega
  | f + 1, c, stand, hst, hc, hf, ahead => by
    obtain ⟨o, ho, _, hd⟩ := R.obj
    rw [setSearchFrom_succ]
    refine wpAny_bind (wpAny_setState_of ho hd R.fits ?_)
    dsimp only
    refine wp_if_neg (by unfold SetTable.gaveWay; rw [mask_odd R.tab.mok]; decide) ?_
    try refine wpAny_bind (wpAny_pure ?_)
    rw [hst]
    rcases met R hK free full hc with ⟨q, i, e, hq, hi, he, heq, none_, pr⟩ | ⟨none_, pr⟩
    · rw [pr]
      dsimp only
      have em := List.mem_of_getElem? he
      have ee := R.els e em
      have sl : t.slot (way t.mask (x.2.hash w) (c + q)) = .live i := slot_live R.tab.ris hi
      have go : wpAny (model P w) A (searchRest a (.ref x.1) (x.2.hash w) true f es t (way t.mask (x.2.hash w) (c + q)) i (pos t.mask (x.2.hash w) (c + (q + 1)))) Q E s := by
        unfold searchRest
        rw [ents_get R.ents he]
        dsimp only
        refine wpAny_bind (wpAny_holding ((nestedKind P w).eqBool (x := e.2) (y := x.2) hu ee hx ?_))
        refine wpAny_bind (wpAny_setState_of ho hd R.fits ?_)
        dsimp only
        by_cases ek : e.2 = x.2
        · exact wp_if_pos (by simp [ek]) (wpAny_pure (yes (List.mem_map.mpr ⟨e, em, ek⟩)))
        · refine wp_if_neg (by simp [ek]) ?_
          try refine wpAny_bind (wpAny_pure ?_)
          rw [sameMem]
          dsimp only
          simp only [if_true, sl, ents_get R.ents he]
          refine wpAny_bind (wpAny_isSame_ref_self (wpAny_bind (wpAny_pure ?_)))
          simp only [if_true]
          refine wp_if_neg (by simp [ek]) ?_
          refine look_from R hx hu hK free full yes no f (c + (q + 1)) (some _) rfl (by omega) (by omega) fun j g hg hgx => ?_
          obtain ⟨c', k1, k2, k3⟩ := ahead j g hg hgx
          refine ⟨c', ?_, k2, k3⟩
          rcases Nat.lt_trichotomy c' (c + q) with z | z | z
          · exact absurd (congrArg (NestedKey.hash w) hgx) (none_ (c' - c) j g (by omega) (by rw [show c + (c' - c) = c' by omega]; exact k3) hg)
          · rw [z] at k3
            have s2 := slot_live R.tab.ris k3
            rw [sl] at s2
            have ij : i = j := by injection s2
            rw [← ij, he] at hg
            exact absurd (by rw [Option.some.inj hg]; exact hgx) ek
          · omega
      cases hl : t.led with
      | true => exact wp_if_neg (by decide) (by try refine wpAny_bind (wpAny_pure ?_)
                                                exact go)
      | false =>
        refine wp_if_pos (by decide) ?_
        refine wpAny_bind (unseen hx (fun y hy => ?_) ?_)
        · obtain ⟨p, hp, rfl⟩ := List.mem_map.mp hy
          have hp2 : p ∈ es.toList := by
            have : p ∈ es ∧ p.1 = x.2.hash w := by simpa using hp
            simpa using this.1
          rw [R.ents] at hp2
          obtain ⟨g, hg, rfl⟩ := List.mem_map.mp hp2
          exact ⟨g, rfl, R.els g hg⟩
        · exact wp_if_neg (by decide) (by try refine wpAny_bind (wpAny_pure ?_)
                                          exact go)
    · rw [pr]
      dsimp only
      refine wpAny_pure (no fun hm => ?_)
      obtain ⟨g, hg, hgx⟩ := List.mem_map.mp hm
      obtain ⟨j, hj⟩ := List.getElem?_of_mem hg
      obtain ⟨c', k1, k2, k3⟩ := ahead j g hj hgx
      exact none_ c' j g k1 k2 k3 hj (congrArg (NestedKey.hash w) hgx)
/-- the search for adding -/
theorem look (R : SetN w s.heap a L es ep t) {x : Elm} (hx : El s.heap x) (hu : A.units + 8 < cLine) {Q : SetFound → Shared → Prop} (yes : x.2 ∈ L.map (·.2) → Q (.there none) s)
    (no : ∀ K, x.2 ∉ L.map (·.2) → way t.mask (x.2.hash w) K ∉ t.place.toList → (∀ c, c < K → way t.mask (x.2.hash w) c ∈ t.place.toList) → Q (.free (way t.mask (x.2.hash w) K) false) s) : wpAny (model P w) A (setSearch a (.ref x.1) (x.2.hash w) true) Q E s := by
  have wd := R.wide
  obtain ⟨K, hK, free, full⟩ := R.tab.first (by rw [List.length_map]; omega) (x.2.hash w)
  have small : 10 * SetTable.turns t.mask ≤ 2000 := by
    unfold SetTable.turns
    rcases R.tab.mok with z | z | z <;> omega
  unfold setSearch
  refine look_from R hx hu hK free full yes (fun z => no K z free full) 100000 0 none rfl (by omega) (by omega) fun i e he hex => ?_
  have il : i < t.place.toList.length := by
    rw [Array.length_toList, R.tab.sz, List.length_map]
    exact (List.getElem?_eq_some_iff.mp he).1
  have hj := List.getElem?_eq_getElem il
  obtain ⟨c, hc, z⟩ := R.tab.before free (i := i) (by rw [List.getElem?_map, he, ← hex]; rfl) hj
  exact ⟨c, Nat.zero_le c, hc, by rw [hj, z]⟩
end
end LL
set_option maxHeartbeats 4000000
/-! One element more; the table laid anew; set(xs). -/
namespace LL
open PySem PySem.Spec PyProof.Rows L2
theorem put_in {α : Type} (L : List α) (p : Nat) (x : α) : (L.take p ++ x :: L.drop p).Perm (x :: L) := by
  have z : (L.take p ++ x :: L.drop p).Perm (x :: (L.take p ++ L.drop p)) := List.perm_middle
  rwa [List.take_append_drop] at z
theorem all_at {α : Type} (L : List α) : (List.range L.length).filterMap (fun i => L[i]?) = L := by
  have part : ∀ n, n ≤ L.length → (List.range n).filterMap (fun i => L[i]?) = L.take n := fun n => by
    induction n with
    | zero => exact fun _ => rfl
    | succ n ih =>
      intro hn
      have one := List.getElem?_eq_getElem (l := L) (i := n) hn
      rw [List.range_succ, List.filterMap_append, ih (by omega), List.take_succ, one, List.filterMap_cons_some one]
      rfl
  rw [part _ (Nat.le_refl _), List.take_length]
/-- the entries in another order -/
theorem ents_perm {w : World} {L : List Elm} {es : Array (Int × Value)} {ord : Array Nat} (he : es.toList = ents w L) (pm : ord.toList.Perm (List.range L.length)) :
    ∃ L', (ord.filterMap (es[·]?)).toList = ents w L' ∧ L'.Perm L ∧ (L'.map fun e => e.2.hash w) = ord.toList.map fun i => (es.map (·.1)).getD i 0 := by
  have one : ∀ i, i < L.length → ∃ e : Elm, L[i]? = some e ∧ es[i]? = some (e.2.hash w, Value.ref e.1) ∧ (es.map (·.1)).getD i 0 = e.2.hash w := fun i hi => by
    have h1 := List.getElem?_eq_getElem (l := L) hi
    have h2 := ents_get he h1
    refine ⟨_, h1, h2, ?_⟩
    have h3 : (es.map (·.1))[i]? = some ((L[i]).2.hash w) := by rw [Array.getElem?_map, h2]; rfl
    simp [Array.getD_eq_getD_getElem?, h3]
  have run : ∀ is : List Nat, (∀ i ∈ is, i < L.length) → is.filterMap (fun i => es[i]?) = ents w (is.filterMap fun i => L[i]?) ∧ ((is.filterMap fun i => L[i]?).map fun e => e.2.hash w) = is.map fun i => (es.map (·.1)).getD i 0 := fun is => by
    induction is with
    | nil => exact fun _ => ⟨rfl, rfl⟩
    | cons i is ih =>
      intro al
      obtain ⟨e, h1, h2, h3⟩ := one i (al i List.mem_cons_self)
      obtain ⟨g1, g2⟩ := ih fun j hj => al j (List.mem_cons_of_mem _ hj)
      rw [List.filterMap_cons_some h1, List.filterMap_cons_some h2, g1, List.map_cons, List.map_cons, g2, h3]
      exact ⟨rfl, rfl⟩
  obtain ⟨g1, g2⟩ := run ord.toList fun i hi => List.mem_range.mp (pm.mem_iff.mp hi)
  refine ⟨_, ?_, ?_, g2⟩
  · rw [← g1]
    simp
  · have z := pm.filterMap fun i => L[i]?
    rwa [all_at] at z
section
variable {P : Program} {w : World} {A : Around} {E : Value → Shared → Prop} {s : Shared} {a : Addr} {L : List Elm} {es : Array (Int × Value)} {ep : Nat} {t : SetTable}
/-- laid anew, with more room -/
theorem relay {o : Obj} (ho : s.heap.get? a = some o) (hx : o.ExactSet) (hd : o.data = .set es ep t) (he : es.toList = ents w L) (T : TabOk t (L.map fun e => e.2.hash w)) (hm : L.length ≤ t.mask) (un : (L.map (·.2)).Nodup) (els : ∀ e ∈ L, El s.heap e)
    (led : w.params.followText "set-order" = true ∨ t.led = true) (few : L.length < 64) {n M : Nat} (hn : SetTable.sizeAbove n - 1 = M) (hM : MaskOk M) (small : SetTable.sizeAbove n ≤ 128) (room : L.length * 5 < M * 3) {Q : Unit → Shared → Prop}
    (q : ∀ h' L' es' ep' t', Heap.SameBut a s.heap h' → SetN w h' a L' es' ep' t' → L'.Perm L → Q () { s with heap := h' }) : wpAny (model P w) A (setRelay a n) Q E s := by
  have sz := ents_len he
  obtain ⟨t', ord, e1, pm, T', em, el, _, _⟩ := relaid_ok t (hs := es.map (·.1)) (wanted := n) hn hM (by rw [Array.size_map, sz]; omega)
  rw [Array.size_map, sz] at pm
  obtain ⟨L', f1, f2, f3⟩ := ents_perm he pm
  rw [← f3] at T'
  have sz2 : (ord.filterMap (es[·]?)).size = es.size := by rw [ents_len f1, sz, f2.length_eq]
  rw [setRelay_eq]
  refine wpAny_bind (wpAny_setState_of ho hd (fits_of_tab T (by rw [List.length_map, sz]) (by rw [sz]; exact hm)) ?_)
  dsimp only
  refine wp_if_neg (by rw [sizeLine_eq]; omega) ?_
  try refine wpAny_bind (wpAny_pure ?_)
  rw [e1]
  dsimp only
  refine wpAny_bind (wp_if_neg (by rw [sz2]; simp) ?_)
  try refine wpAny_bind (wpAny_pure ?_)
  refine wpAny_pure ?_
  dsimp only
  refine wpAny_storeSet_of ho hd ?_ (by rw [sz2, sz, sizeLine_eq]; omega)
  have sb : Heap.SameBut a s.heap (s.heap.update a (Obj.putSet (ord.filterMap (es[·]?)) t')) := Heap.SameBut.update ..
  refine q _ L' _ (ep + 1) t' sb ⟨⟨_, store_at ho hd, ⟨hx.1, hx.2.1, hx.2.2⟩, rfl⟩, f1, T', (f2.map (·.2)).nodup_iff.mpr un, fun e h => (els e (f2.mem_iff.mp h)).apart ho hd sb, by rw [el]; exact led, by rw [f2.length_eq, em]; exact room, by rw [f2.length_eq]; exact few⟩ f2
/-- one more -/
theorem adds (R : SetN w s.heap a L es ep t) {x : Elm} (hx : El s.heap x) (hu : A.units + 8 < cLine) (few : L.length + 1 < 64) {Q : Bool → Shared → Prop}
    (q : ∀ b h' L' es' ep' t', Heap.SameBut a s.heap h' → SetN w h' a L' es' ep' t' → (x.2 ∈ L.map (·.2) → L' = L) → (x.2 ∉ L.map (·.2) → L'.Perm (x :: L)) → Q b { s with heap := h' }) :
    wpAny (model P w) A (setAddHashed a (.ref x.1) (x.2.hash w)) Q E s := by
  obtain ⟨o, ho, hob, hd⟩ := R.obj
  have sz := ents_len R.ents
  have wd := R.wide
  unfold setAddHashed
  refine wpAny_holding ?_
  rw [show (100000 : Nat) = 99999 + 1 from rfl, setAddHashedIn_succ]
  refine wpAny_bind (wpAny_setState_of ho hd R.fits ?_)
  dsimp only
  refine wp_if_neg (by simp [byScan, Value.scannable]) ?_
  try refine wpAny_bind (wpAny_pure ?_)
  refine wpAny_bind (look R hx hu (fun old => ?_) fun K new free full => ?_)
  · dsimp only
    exact wpAny_pure (q false s.heap L es ep t (Heap.SameBut.refl a s.heap) R (fun _ => rfl) fun z => absurd old z)
  dsimp only
  refine wpAny_bind (wpAny_setState_of ho hd R.fits ?_)
  dsimp only
  obtain ⟨q1, q2, q3, q4, q5, _, _, _, q9⟩ := R.tab.put free full
  generalize hpt : t.put (way t.mask (x.2.hash w) K) = pt at q1 q3 q4 q5 q9 ⊢
  obtain ⟨t1, p⟩ := pt
  dsimp only at q1 q3 q4 q5 q9 ⊢
  -- whatever its hash is made of
  have after : ∀ t2 : SetTable, TabOk t2 ((L.map fun e => e.2.hash w).take p ++ x.2.hash w :: (L.map fun e => e.2.hash w).drop p) → t2.mask = t.mask → t2.led = t.led → t2.tooFull = t1.tooFull →
      wpAny (model P w) A (do
        storeSet a (SetTable.insertAt es p (x.2.hash w, Value.ref x.1)) t2
        if (!false && t2.tooFull) = true then setRelay a (SetTable.grown (es.size + 1))
        return true) Q E s := fun t2 T2 em el ef => by
    have ins : (SetTable.insertAt es p (x.2.hash w, Value.ref x.1)).toList = ents w (L.take p ++ x :: L.drop p) := by
      rw [SetTable.toList_insertAt, R.ents]
      unfold ents
      rw [List.map_append, List.map_cons, List.map_take, List.map_drop]
    have pm := put_in L p x
    have hs : (L.take p ++ x :: L.drop p).map (fun e => e.2.hash w) = (L.map fun e => e.2.hash w).take p ++ x.2.hash w :: (L.map fun e => e.2.hash w).drop p := by
      rw [List.map_append, List.map_cons, List.map_take, List.map_drop]
    rw [← hs] at T2
    have un : ((L.take p ++ x :: L.drop p).map (·.2)).Nodup := (pm.map (·.2)).nodup_iff.mpr (List.nodup_cons.mpr ⟨new, R.uniq⟩)
    have ln : (L.take p ++ x :: L.drop p).length = L.length + 1 := pm.length_eq
    have sz1 := ents_len ins
    generalize SetTable.insertAt es p (x.2.hash w, Value.ref x.1) = es1 at ins sz1 ⊢
    generalize L.take p ++ x :: L.drop p = L1 at pm ins T2 un ln sz1
    refine wpAny_bind (wpAny_storeSet_of ho hd ?_ (by rw [sz1, ln, sizeLine_eq]; omega))
    have sb : Heap.SameBut a s.heap (s.heap.update a (Obj.putSet es1 t2)) := Heap.SameBut.update ..
    have ho1 := store_at (es' := es1) (t' := t2) ho hd
    generalize s.heap.update a (Obj.putSet es1 t2) = h1 at sb ho1 ⊢
    have els : ∀ e ∈ L1, El h1 e := fun e h => by
      rcases List.mem_cons.mp (pm.mem_iff.mp h) with z | z
      · rw [z]
        exact hx.apart ho hd sb
      · exact (R.els e z).apart ho hd sb
    have led : w.params.followText "set-order" = true ∨ t2.led = true := by rw [el]; exact R.led
    have full_iff : t2.tooFull = decide ((L.length + 1) * 5 ≥ t.mask * 3) := by
      rw [ef]
      unfold SetTable.tooFull
      rw [q9, List.length_map, q4]
    by_cases hf : (L.length + 1) * 5 ≥ t.mask * 3
    · have tf : (!false && t2.tooFull) = true := by rw [full_iff]; simpa using hf
      rw [sz]
      have lay : ∀ M, SetTable.sizeAbove (SetTable.grown (L.length + 1)) - 1 = M → MaskOk M → SetTable.sizeAbove (SetTable.grown (L.length + 1)) ≤ 128 → (L.length + 1) * 5 < M * 3 →
          wpAny (model P w) A (setRelay a (SetTable.grown (L.length + 1))) (fun _ s' => wpAny (model P w) A (pure true) Q E s') E { s with heap := h1 } := fun M g1 g2 g3 g4 =>
        relay (s := { s with heap := h1 }) ho1 ⟨hob.1, hob.2.1, hob.2.2⟩ rfl ins T2 (by rw [ln, em]; omega) un els led (by rw [ln]; exact few) g1 g2 g3 (by rw [ln]; exact g4) fun h2 L2 es2 ep2 t3 sb2 R2 pm2 =>
          wpAny_pure (q true h2 L2 es2 ep2 t3 (sb.trans sb2) R2 (fun z => absurd z new) fun _ => pm2.trans pm)
      have which : L.length = 4 ∨ L.length = 18 := by
        rcases R.tab.mok with z | z | z <;> rw [z] at hf wd <;> omega
      have fin : wpAny (model P w) A (setRelay a (SetTable.grown (L.length + 1))) (fun _ s' => wpAny (model P w) A (pure true) Q E s') E { s with heap := h1 } := by
        rcases which with z | z
        · exact lay 31 (by rw [z, size_20]) (.inr (.inl rfl)) (by rw [z, size_20]; decide) (by omega)
        · exact lay 127 (by rw [z, size_76]) (.inr (.inr rfl)) (by rw [z, size_76]; decide) (by omega)
      first
        | exact wp_if_pos tf (wpAny_bind fin)
        | exact wpAny_bind (wp_if_pos tf fin)
    · have tf : ¬ (!false && t2.tooFull) = true := by rw [full_iff]; simpa using hf
      have fin : Q true { s with heap := h1 } := q true h1 L1 es1 (ep + 1) t2 sb ⟨⟨_, ho1, ⟨hob.1, hob.2.1, hob.2.2⟩, rfl⟩, ins, T2, un, els, led, by rw [ln, em]; omega, by rw [ln]; exact few⟩ (fun z => absurd z new) fun _ => pm
      first
        | exact wp_if_neg tf (wpAny_pure fin)
        | exact wp_if_neg tf (wpAny_bind (wpAny_pure (wpAny_pure fin)))
        | exact wpAny_bind (wp_if_neg tf (wpAny_pure (wpAny_pure fin)))
  have T1 := q3
  rw [← q1] at T1
  by_cases pl : t1.plain = true
  · first
      | refine wpAny_bind (wp_if_pos pl (someFlag _ _ 8 hx.1 hx.2 _ _ _ fun b => ?_))
      | refine wp_if_pos pl (wpAny_bind (someFlag _ _ 8 hx.1 hx.2 _ _ _ fun b => ?_))
    cases b with
    | true => exact after t1 T1 q4 q5 rfl
    | false => exact after { t1 with plain := false } ⟨T1.ris, T1.dm, T1.sz, T1.mok, T1.bd, T1.reach⟩ q4 q5 rfl
  · first
      | refine wpAny_bind (wp_if_neg pl (wpAny_pure ?_))
      | refine wp_if_neg pl (wpAny_bind (wpAny_pure ?_))
    exact after t1 T1 q4 q5 rfl
end
end LL
set_option maxHeartbeats 4000000
/-! set(xs), xs a list or a tuple of nested tuples. -/
namespace LL
open PySem PySem.Spec PyProof.Rows L2
/-- what has come into the set of the first i things -/
structure Come (ks : List Elm) (i : Nat) (L : List Elm) : Prop where
  of_ : ∀ e ∈ L, e ∈ ks.take i
  in_ : ∀ e ∈ ks.take i, e.2 ∈ L.map (·.2)
  le_ : L.length ≤ i
theorem Come.begin (ks : List Elm) : Come ks 0 [] := ⟨(fun _ h => nomatch h), (fun _ h => by simp at h), Nat.le_refl 0⟩
theorem Come.next {ks L L' : List Elm} {i : Nat} {x : Elm} (g : Come ks i L) (h : ks[i]? = some x) (old : x.2 ∈ L.map (·.2) → L' = L) (new : x.2 ∉ L.map (·.2) → L'.Perm (x :: L)) : Come ks (i + 1) L' := by
  have tk : ks.take (i + 1) = ks.take i ++ [x] := by
    rw [List.take_succ, h]
    rfl
  have hx : x ∈ ks.take (i + 1) := by rw [tk]; simp
  have up : ∀ e ∈ ks.take i, e ∈ ks.take (i + 1) := fun e he => by rw [tk]; exact List.mem_append_left _ he
  have down : ∀ e ∈ ks.take (i + 1), e ∈ ks.take i ∨ e = x := fun e he => by
    rw [tk] at he
    simpa using he
  by_cases c : x.2 ∈ L.map (·.2)
  · rw [old c]
    refine ⟨fun e he => up e (g.of_ e he), fun e he => ?_, Nat.le_succ_of_le g.le_⟩
    rcases down e he with z | z
    · exact g.in_ e z
    · rw [z]
      exact c
  · have pm := new c
    refine ⟨fun e he => ?_, fun e he => ?_, by have := pm.length_eq; have := g.le_; simp at *; omega⟩
    · rcases List.mem_cons.mp (pm.mem_iff.mp he) with z | z
      · rw [z]
        exact hx
      · exact up e (g.of_ e z)
    · rw [(pm.map (·.2)).mem_iff, List.map_cons, List.mem_cons]
      rcases down e he with z | z
      · exact .inr (g.in_ e z)
      · exact .inl (congrArg Prod.snd z)
abbrev set0 (w : World) : Obj := { cls := .type "set", dict := none, data := .set #[] 0 (.fresh 0 0 (!w.params.followText "set-order")) }
section
variable {P : Program} {w : World} {A : Around} {E : Value → Shared → Prop} {s : Shared}
theorem setN_new {h : Heap} {a : Addr} (ho : h.get? a = some (set0 w)) : SetN w h a [] #[] 0 (.fresh 0 0 (!w.params.followText "set-order")) := by
  refine ⟨⟨_, ho, ⟨rfl, rfl, rfl⟩, rfl⟩, rfl, ⟨List.Pairwise.nil, rfl, rfl, .inl rfl, (fun x hx => nomatch hx), (fun i h j hi => by simp at hi)⟩, List.nodup_nil, (fun e he => nomatch he), ?_, (by show 0 * 5 < 7 * 3; decide), (by show 0 < 64; decide)⟩
  cases w.params.followText "set-order"
  · exact .inr rfl
  · exact .inl rfl
/-- the loop that puts the things in -/
theorem put_all {I : Addr} {fp wr : List Addr} {G : Array GenState → Array GenState → Prop} {n : Nat} {Pv : Nat → Value → Prop} {St : Nat → Shared → Prop} {R : Result → Shared → Prop} (W : WalksS P w A.in1 I fp wr G n Pv St) (S : Addr) (out : S ∉ fp) (ks : List Elm)
    (hn : n = ks.length) (few : n < 64) (val : ∀ i v, Pv i v → ∃ e, ks[i]? = some e ∧ v = .ref e.1) (h0 : Heap) (els : ∀ e ∈ ks, El h0 e) (nS : h0.get? S = none) (nw : ∀ b ∈ wr, h0.get? b = none) (hu : A.in1.units + 8 < cLine) :
    ∀ (k i : Nat) (s : Shared), i + k = n → St i s → (∀ b o, h0.get? b = some o → s.heap.get? b = some o) → (∃ L es ep t, SetN w s.heap S L es ep t ∧ Come ks i L) →
      (∀ s' L es ep t, Moved (S :: wr) G s s' → SetN w s'.heap S L es ep t → Come ks n L → (∀ b o, h0.get? b = some o → s'.heap.get? b = some o) → R (.ok (.ret .none)) s') →
      codeAny (model P w) A (.builtin "set.update.loop" ⟨[.ref S, .ref I], []⟩) R s := by
  have Sw : S ∉ wr := fun z => out (W.sub S z)
  have wider : ∀ b ∈ wr, b ∈ S :: wr := fun b hb => List.mem_cons_of_mem S hb
  have stay : ∀ {s1 s2 : Shared}, Moved wr G s1 s2 → (∀ b o, h0.get? b = some o → s1.heap.get? b = some o) → ∀ b o, h0.get? b = some o → s2.heap.get? b = some o := fun mv k b o e =>
    mv.heap b o (fun z => by rw [nw b z] at e; exact nomatch e) (k b o e)
  have inKs : ∀ {i : Nat} {L : List Elm}, Come ks i L → ∀ e ∈ L, e ∈ ks := fun g e he => List.mem_of_mem_take (g.of_ e he)
  intro k
  induction k with
  | zero =>
    rintro i s rfl st kp ⟨L, es, ep, t, hS, g⟩ done_
    refine codeAny_builtin F.entry_set_update_loop ?_
    rw [Around.under_plainId F.plain_set_update_loop _]
    show wpAny _ A.in1 (pyNext (.ref I) >>= _) _ _ s
    refine wpAny_bind (W.done s _ _ st fun s' mv => ?_)
    have kp' := stay mv kp
    show wpAny _ A.in1 (ret Value.none) _ _ s'
    exact wpAny_pure (done_ s' L es ep t (mv.mono wider) (hS.stood (fun o e => mv.heap S o Sw e) fun e he => (els e (inKs g e he)).stays kp') g kp')
  | succ k ih =>
    rintro i s hk st kp ⟨L, es, ep, t, hS, g⟩ done_
    refine codeAny_builtin F.entry_set_update_loop ?_
    rw [Around.under_plainId F.plain_set_update_loop _]
    show wpAny _ A.in1 (pyNext (.ref I) >>= _) _ _ s
    refine wpAny_bind (W.item i s _ _ (by omega) st fun v s' pv st' mv => ?_)
    obtain ⟨x, hx, rfl⟩ := val i v pv
    have kp' := stay mv kp
    have hS' : SetN w s'.heap S L es ep t := hS.stood (fun o e => mv.heap S o Sw e) fun e he => (els e (inKs g e he)).stays kp'
    have ex : El s'.heap x := (els x (List.mem_of_getElem? hx)).stays kp'
    show wpAny _ A.in1 (holding [Value.ref x.1] (setAdd S (.ref x.1)) >>= _) _ _ s'
    refine wpAny_bind (wpAny_holding ?_)
    unfold setAdd
    refine wpAny_holding (wpAny_bind ((nestedKind P w).pyHash (k := x.2) hu ex ?_))
    have ln := g.le_
    refine adds (s := { s' with toks := s'.toks + (nestedKind P w).draws x.2 }) hS' ex hu (by omega) fun b h' L' es' ep' t' sb hS2 old new => ?_
    have kp2 : ∀ b o, h0.get? b = some o → h'.get? b = some o := fun b o e => by
      have ne : b ≠ S := fun z => by rw [z, nS] at e; exact nomatch e
      rw [sb.2 b ne]
      exact kp' b o e
    refine wpAny_pure ⟨plainId_quiet F.plain_set_update_loop _, ih (i + 1) _ (by omega) (W.frame _ s' _ _ st' (Nat.le_add_right _ _) fun b hb o e => ?_) kp2 ⟨L', es', ep', t', hS2, g.next hx old new⟩ fun s2 L2 es2 ep2 t2 mv2 hS3 g2 kp3 => ?_⟩
    · rw [sb.2 b fun z => out (by rw [← z]; exact hb)]
      exact e
    · refine done_ s2 L2 es2 ep2 t2 (Moved.trans W.gtrans ((mv.mono wider).then_heap (Nat.le_add_right _ _) fun b o hb e => ?_) mv2) hS3 g2 kp3
      rw [sb.2 b fun z => hb (by rw [z]; exact List.mem_cons_self)]
      exact e
theorem none_above {h : Heap} {b : Addr} (hb : h.objs.size ≤ b) : h.get? b = none := by
  cases q : h.get? b with
  | none => rfl
  | some o => exact absurd (Heap.lt_size q) (Nat.not_lt_of_le hb)
/-- what set(xs) comes to -/
def SetOut (w : World) (s : Shared) (ks : List Elm) (Q : Value → Shared → Prop) : Prop := ∀ (h' : Heap) (tk : Nat) (L : List Elm) es ep t, SetN w h' s.heap.objs.size L es ep t → Come ks ks.length L → (∀ b o, s.heap.get? b = some o → h'.get? b = some o) → Q (.ref s.heap.objs.size) { s with heap := h', toks := tk }
theorem val_of {items : Array Value} {ks : List Elm} (hit : items.toList = ks.map fun e => Value.ref e.1) : items.size = ks.length ∧ ∀ (i : Nat) (v : Value), items[i]? = some v → ∃ e, ks[i]? = some e ∧ v = .ref e.1 := by
  refine ⟨by have z := congrArg List.length hit; simpa using z, fun i v hv => ?_⟩
  rw [← Array.getElem?_toList, hit, List.getElem?_map] at hv
  obtain ⟨e, h1, h2⟩ := Option.map_eq_some_iff.mp hv
  exact ⟨e, h1, h2.symm⟩
set_option maxHeartbeats 16000000 in
/-- set(xs) of a list -/
theorem set_of_list {l : Addr} {items : Array Value} (ks : List Elm) {Q : Value → Shared → Prop} (hh : A.handled = none) (hl : s.heap.IsList l items) (hit : items.toList = ks.map fun e => Value.ref e.1) (els : ∀ e ∈ ks, El s.heap e) (few : ks.length < 64) (hu : A.units + 12 < cLine)
    (q : SetOut w s ks Q) : wpAny (model P w) A (call (.type "set") [.ref l]) Q E s := by
  obtain ⟨hsz, hval⟩ := val_of hit
  obtain ⟨c, tl, hmro⟩ := F.called_set.mro
  have hmade := F.called_set.made
  have hsub := F.called_set.sub
  refine wpAny_call (codeAny_of_tree ?_)
  show wpAny _ _ (callAny (.type "set") _) _ _ _
  refine wpAny_pure ⟨Code.quiet_builtin _ (by decide +kernel), codeAny_builtin F.entry_type_call ?_⟩
  rw [Around.under_plain (weight_type_call_type "set" [.ref l] []) rfl]
  have h1 := F.called_set.notType
  have h2 := F.called_set.canCreate
  have hct := F.typeCall_set_1 (.ref l)
  repeat (any_goals (first | assumption | wp_step))
  refine codeAny_mono (code_set_led1 (.ref l) (E := E) (Q₁ := fun obj s₁ => obj = .ref s.heap.objs.size ∧ s₁ = { s with heap := s.heap.push (set0 w) }) ⟨rfl, rfl⟩) fun r s₁ hr => ?_
  cases r with
  | error e => exact hr
  | ok fl =>
    cases fl with
    | ret obj =>
      obtain ⟨rfl, rfl⟩ := hr
      have hS : (s.heap.push (set0 w)).get? s.heap.objs.size = some (set0 w) := Heap.get?_push_size _ rfl
      have hT : Shared.TypeIs { s with heap := s.heap.push (set0 w) } (.ref s.heap.objs.size) "set" := ⟨_, hS, rfl⟩
      have hli := F.called_set.init.lookup
      have hbi := F.called_set.init.bind (.ref s.heap.objs.size)
      repeat (any_goals (first | assumption | wp_step))
      refine codeAny_mono (codeAny_call_builtin (R := wants (fun r s₂ => r = .none ∧ ∃ h' tk L es ep t, s₂ = { s with heap := h', toks := tk } ∧ SetN w h' s.heap.objs.size L es ep t ∧ Come ks ks.length L ∧ (∀ b o, s.heap.get? b = some o → h'.get? b = some o)) E) F.called_set.init.plain F.entry_set_init (check_set_init_1 hT ?_)) fun r₂ s₂ hr₂ => ?_
      · obtain ⟨ol, hol, hcl, nl, hdl⟩ := hl
        obtain ⟨ocls, odict, odata, oslots⟩ := ol
        dsimp only at hcl hdl
        subst hcl hdl
        have hol' : (s.heap.push (set0 w)).get? l = some { cls := .type "list", dict := odict, data := .seq items nl, slots := oslots } := Heap.get?_push_of_some _ hol
        have hsls := F.sub_list_set
        have hslf := F.sub_list_frozenset
        have hne : (Value.type "list" == Value.type "dict") = false := by decide
        have hl1 : (s.heap.push (set0 w)).IsList l items := ⟨_, hol', rfl, nl, rfl⟩
        unfold Builtin.«set.__init__» noKeywords Builtin.Frozenset.updateFrom
        generalize hPI : pyIter = PI
        wp_walk
        subst hPI
        refine wpAny_pyIter_list hl1 ?_
        refine wpAny_bind (wpAny_runValue ?_)
        have ls : l < s.heap.objs.size := Heap.lt_size hol
        have z1 : (s.heap.push (set0 w)).objs.size = s.heap.objs.size + 1 := Heap.size_push ..
        have lI : l ≠ (s.heap.push (set0 w)).objs.size := by rw [z1]; exact Nat.ne_of_lt (Nat.lt_succ_of_lt ls)
        have Sf : s.heap.objs.size ∉ [(s.heap.push (set0 w)).objs.size, l] := by
          rw [z1]
          intro z
          rcases List.mem_cons.mp z with z | z
          · exact absurd z (Nat.ne_of_lt (Nat.lt_succ_self _))
          · exact absurd (List.mem_singleton.mp z) (Nat.ne_of_gt ls)
        refine put_all ((Walks.list (by simp [hh]) _ l lI items).toS) s.heap.objs.size Sf ks hsz (by omega) hval s.heap els (none_above (Nat.le_refl _)) (fun b hb => none_above (by rw [List.mem_singleton.mp hb, z1]; exact Nat.le_succ _)) (by simp only [Around.in1_units]; omega) items.size 0 _ (Nat.zero_add _)
          ⟨⟨_, Heap.get?_push_size _ rfl, rfl, rfl⟩, hl1.push _⟩ (fun b o e => Heap.get?_push_of_some _ (Heap.get?_push_of_some _ e)) ⟨[], #[], 0, _, setN_new (Heap.get?_push_of_some _ hS), Come.begin ks⟩ ?_
        intro s' L es ep t mv hS' g kp
        obtain ⟨h', g2, d', tk', os'⟩ := s'
        cases (show g2 = s.gens from mv.gens)
        cases (show d' = s.drawn from mv.drawn)
        cases (show os' = s.os from mv.os)
        rw [hsz] at g
        show wpAny _ _ _ _ _ _
        refine wpAny_pure ?_
        show wpAny _ _ (ret Value.none) _ _ _
        exact wpAny_pure ⟨rfl, h', tk', L, es, ep, t, rfl, hS', g, kp⟩
      · cases r₂ with
        | error e => exact hr₂
        | ok fl₂ =>
          cases fl₂ with
          | ret r =>
            obtain ⟨rfl, h', tk, L, es, ep, t, rfl, hS', g, kp⟩ := hr₂
            repeat (any_goals (first | assumption | wp_step))
            exact q h' _ L es ep t hS' g kp
          | _ => exact hr₂.elim
    | _ => exact hr.elim
set_option maxHeartbeats 16000000 in
/-- set(xs) of a tuple -/
theorem set_of_tuple {l : Addr} {items : Array Value} (ks : List Elm) {Q : Value → Shared → Prop} (hh : A.handled = none) (hl : s.heap.IsTuple l items) (hit : items.toList = ks.map fun e => Value.ref e.1) (els : ∀ e ∈ ks, El s.heap e) (few : ks.length < 64) (hu : A.units + 12 < cLine)
    (q : SetOut w s ks Q) : wpAny (model P w) A (call (.type "set") [.ref l]) Q E s := by
  obtain ⟨hsz, hval⟩ := val_of hit
  obtain ⟨c, tl, hmro⟩ := F.called_set.mro
  have hmade := F.called_set.made
  have hsub := F.called_set.sub
  refine wpAny_call (codeAny_of_tree ?_)
  show wpAny _ _ (callAny (.type "set") _) _ _ _
  refine wpAny_pure ⟨Code.quiet_builtin _ (by decide +kernel), codeAny_builtin F.entry_type_call ?_⟩
  rw [Around.under_plain (weight_type_call_type "set" [.ref l] []) rfl]
  have h1 := F.called_set.notType
  have h2 := F.called_set.canCreate
  have hct := F.typeCall_set_1 (.ref l)
  repeat (any_goals (first | assumption | wp_step))
  refine codeAny_mono (code_set_led1 (.ref l) (E := E) (Q₁ := fun obj s₁ => obj = .ref s.heap.objs.size ∧ s₁ = { s with heap := s.heap.push (set0 w) }) ⟨rfl, rfl⟩) fun r s₁ hr => ?_
  cases r with
  | error e => exact hr
  | ok fl =>
    cases fl with
    | ret obj =>
      obtain ⟨rfl, rfl⟩ := hr
      have hS : (s.heap.push (set0 w)).get? s.heap.objs.size = some (set0 w) := Heap.get?_push_size _ rfl
      have hT : Shared.TypeIs { s with heap := s.heap.push (set0 w) } (.ref s.heap.objs.size) "set" := ⟨_, hS, rfl⟩
      have hli := F.called_set.init.lookup
      have hbi := F.called_set.init.bind (.ref s.heap.objs.size)
      repeat (any_goals (first | assumption | wp_step))
      refine codeAny_mono (codeAny_call_builtin (R := wants (fun r s₂ => r = .none ∧ ∃ h' tk L es ep t, s₂ = { s with heap := h', toks := tk } ∧ SetN w h' s.heap.objs.size L es ep t ∧ Come ks ks.length L ∧ (∀ b o, s.heap.get? b = some o → h'.get? b = some o)) E) F.called_set.init.plain F.entry_set_init (check_set_init_1 hT ?_)) fun r₂ s₂ hr₂ => ?_
      · obtain ⟨ol, hol, hcl, nl, hdl⟩ := hl
        obtain ⟨ocls, odict, odata, oslots⟩ := ol
        dsimp only at hcl hdl
        subst hcl hdl
        have hol' : (s.heap.push (set0 w)).get? l = some { cls := .type "tuple", dict := odict, data := .seq items nl, slots := oslots } := Heap.get?_push_of_some _ hol
        have hsls := F.sub_tuple_set
        have hslf := F.sub_tuple_frozenset
        have hne : (Value.type "tuple" == Value.type "dict") = false := by decide
        have hl1 : (s.heap.push (set0 w)).IsTuple l items := ⟨_, hol', rfl, nl, rfl⟩
        unfold Builtin.«set.__init__» noKeywords Builtin.Frozenset.updateFrom
        generalize hPI : pyIter = PI
        wp_walk
        subst hPI
        refine wpAny_pyIter_tuple hl1 ?_
        refine wpAny_bind (wpAny_runValue ?_)
        have ls : l < s.heap.objs.size := Heap.lt_size hol
        have z1 : (s.heap.push (set0 w)).objs.size = s.heap.objs.size + 1 := Heap.size_push ..
        have lI : l ≠ (s.heap.push (set0 w)).objs.size := by rw [z1]; exact Nat.ne_of_lt (Nat.lt_succ_of_lt ls)
        have Sf : s.heap.objs.size ∉ [(s.heap.push (set0 w)).objs.size, l] := by
          rw [z1]
          intro z
          rcases List.mem_cons.mp z with z | z
          · exact absurd z (Nat.ne_of_lt (Nat.lt_succ_self _))
          · exact absurd (List.mem_singleton.mp z) (Nat.ne_of_gt ls)
        refine put_all ((Walks.tuple (by simp [hh]) _ l lI items).toS) s.heap.objs.size Sf ks hsz (by omega) hval s.heap els (none_above (Nat.le_refl _)) (fun b hb => none_above (by rw [List.mem_singleton.mp hb, z1]; exact Nat.le_succ _)) (by simp only [Around.in1_units]; omega) items.size 0 _ (Nat.zero_add _)
          ⟨⟨_, Heap.get?_push_size _ rfl, rfl, rfl⟩, hl1.push _⟩ (fun b o e => Heap.get?_push_of_some _ (Heap.get?_push_of_some _ e)) ⟨[], #[], 0, _, setN_new (Heap.get?_push_of_some _ hS), Come.begin ks⟩ ?_
        intro s' L es ep t mv hS' g kp
        obtain ⟨h', g2, d', tk', os'⟩ := s'
        cases (show g2 = s.gens from mv.gens)
        cases (show d' = s.drawn from mv.drawn)
        cases (show os' = s.os from mv.os)
        rw [hsz] at g
        show wpAny _ _ _ _ _ _
        refine wpAny_pure ?_
        show wpAny _ _ (ret Value.none) _ _ _
        exact wpAny_pure ⟨rfl, h', tk', L, es, ep, t, rfl, hS', g, kp⟩
      · cases r₂ with
        | error e => exact hr₂
        | ok fl₂ =>
          cases fl₂ with
          | ret r =>
            obtain ⟨rfl, h', tk, L, es, ep, t, rfl, hS', g, kp⟩ := hr₂
            repeat (any_goals (first | assumption | wp_step))
            exact q h' _ L es ep t hS' g kp
          | _ => exact hr₂.elim
    | _ => exact hr.elim
end
end LL
set_option maxHeartbeats 4000000
/-! set(xs), sorted(set(..)), sorted(xs) over the hand layer: nested tuples. -/
namespace LL
open PySem PySem.Spec PyProof.Rows L2
mutual
theorem key_reads {h : Heap} : ∀ (k : NestedKey) (v : Value) (as : List Addr), Reads h v k.data as → NestedIs h k v ∧ as = []
  | .none, _, _, r => by cases r; exact ⟨.none, rfl⟩
  | .num i, _, _, r => by cases r; exact ⟨.int _ _, rfl⟩
  | .text x, _, _, r => by cases r; exact ⟨.text _ _, rfl⟩
  | .tup ks, _, _, r => by
    cases r with
    | tuple h1 h2 h3 h4 =>
      obtain ⟨g1, g2⟩ := keys_reads ks _ _ h4
      exact ⟨.tup h1 h2 h3 g1, g2⟩
theorem keys_reads {h : Heap} : ∀ (ks : List NestedKey) (vs : List Value) (as : List Addr), ReadsAll h vs (NestedKey.datas ks) as → NestedAll h ks vs ∧ as = []
  | [], _, _, r => by cases r; exact ⟨.nil, rfl⟩
  | k :: ks, _, _, r => by
    cases r with
    | cons h1 h2 =>
      obtain ⟨g1, g2⟩ := key_reads k _ _ h1
      obtain ⟨g3, g4⟩ := keys_reads ks _ _ h2
      exact ⟨.cons g1 g3, by rw [g2, g4]; rfl⟩
end
mutual
theorem data_depth : ∀ k : NestedKey, k.data.depth = k.depth
  | .none => by simp [NestedKey.data, PyData.depth, NestedKey.depth]
  | .num _ => by simp [NestedKey.data, PyData.depth, NestedKey.depth]
  | .text _ => by simp [NestedKey.data, PyData.depth, NestedKey.depth]
  | .tup ks => by
    have := datas_depth ks
    simp only [NestedKey.data, PyData.depth, NestedKey.depth]
    omega
theorem datas_depth : ∀ ks : List NestedKey, PyData.depthAll (NestedKey.datas ks) = NestedKey.depthAll ks
  | [] => by simp [NestedKey.datas, PyData.depthAll, NestedKey.depthAll]
  | k :: ks => by
    have := data_depth k
    have := datas_depth ks
    simp only [NestedKey.datas, PyData.depthAll, NestedKey.depthAll]
    omega
end
/-- the set at a, whatever its elements are -/
structure Set0 (w : World) (h : Heap) (a : Addr) (L : List Elm) : Prop where
  ex : ∃ (es : Array (Int × Value)) (ep : Nat) (t : SetTable), (∃ o, h.get? a = some o ∧ o.ExactSet ∧ o.data = .set es ep t) ∧ es.toList = ents w L ∧ TabOk t (L.map fun e => e.2.hash w) ∧ (L.map (·.2)).Nodup ∧ (w.params.followText "set-order" = true ∨ t.led = true) ∧ L.length * 5 < t.mask * 3 ∧ L.length < 64
def SetNO (w : World) (a : Addr) (L : List Elm) : HO := .ext fun h => Set0 w h a L
theorem SetN.bare {w : World} {h : Heap} {a : Addr} {L : List Elm} {es : Array (Int × Value)} {ep : Nat} {t : SetTable} (R : SetN w h a L es ep t) : Set0 w h a L := ⟨es, ep, t, R.obj, R.ents, R.tab, R.uniq, R.led, R.wide, R.few⟩
theorem Set0.whole {w : World} {h : Heap} {a : Addr} {L : List Elm} (R : Set0 w h a L) (els : ∀ e ∈ L, El h e) : ∃ es ep t, SetN w h a L es ep t := by
  obtain ⟨es, ep, t, h1, h2, h3, h4, h5, h6, h7⟩ := R.ex
  exact ⟨es, ep, t, h1, h2, h3, h4, els, h5, h6, h7⟩
theorem setNO_ok {P : Program} {w : World} {H : Hp} {h : Heap} {a : Addr} {L : List Elm} (R : Set0 w h a L) : ObjOk P w H h a (SetNO w a L) := by
  obtain ⟨_, _, _, ⟨o, ho, _⟩, _⟩ := R.ex
  refine ⟨R, ⟨o, ho⟩, fun h1 h2 p k => ?_⟩
  obtain ⟨es, ep, t, ⟨o1, g1, g2⟩, g3⟩ := Set0.ex p
  exact ⟨es, ep, t, ⟨o1, k o1 g1, g2⟩, g3⟩
theorem refs_back' : ∀ {ks : List Elm} {us : List Value}, Vals (ks.map fun e => V.ref e.1) us → us = ks.map fun e => Value.ref e.1
  | [], _, .nil => rfl
  | _ :: _, _, .cons r t => by
    cases r
    rw [refs_back' t]
    rfl
theorem refs_vals : ∀ ks : List Elm, Vals (ks.map fun e => V.ref e.1) (ks.map fun e => Value.ref e.1)
  | [] => .nil
  | _ :: ks => .cons rfl (refs_vals ks)
/-- read over the hand layer -/
def ElV (K : PySem.W.Frag) (H : Hp) (e : Elm) : Prop := Dp K H (.ref e.1) e.2.data ∧ e.2.depth ≤ 8
/-- the order of elements -/
def leE (e f : Elm) : Bool := PySem.W.dataLe false (fun g : Elm => g.2.data) e f
section
variable {X : Cx}
theorem elV_el {pins : List (Addr × Obj)} {σ : L2.St} {H : Hp} {s : Shared} (I : Inv X pins σ H s) {e : Elm} (h : ElV X.K H e) : El s.heap e := by
  obtain ⟨as, r⟩ := Dp.reads I _ _ (Value.ref e.1) h.1 rfl
  exact ⟨(key_reads _ _ _ r).1, h.2⟩
def rSetN (K : PySem.W.Frag) (w : World) : List V → Hp → VK → Prop := fun xs H Q => ∃ (l : Addr) (ks : List Elm), xs = [V.ref l] ∧ (SqL K H l (ks.map fun e => V.ref e.1) ∨ SqT K H l (ks.map fun e => V.ref e.1)) ∧ (∀ e ∈ ks, ElV K H e) ∧ ks.length < 64 ∧
  ∀ a L, H a = none → (∀ e ∈ L, e ∈ ks) → (∀ e ∈ ks, e.2 ∈ L.map (·.2)) → Q (.ref a) (upd H a (SetNO w a L))
theorem cr_setN (hc : X.calm = true) (hu : X.A.units + 64 < cLine) : CallR X (.type "set") (rSetN X.K X.w) := by
  intro pins s σ H xs us Q I r h
  obtain ⟨l, ks, rfl, hl, hk, few, q⟩ := h
  rw [Vals.ref1 r]
  have out : SetOut X.w s ks (fun v s' => ∃ u H', Inv X pins σ H' s' ∧ RelV u v ∧ Q u H') := fun h' tk L es ep t R g k =>
    ⟨.ref s.heap.objs.size, _, I.laid (t' := tk) k (Nat.le_refl _) (setNO_ok R.bare), rfl, q _ L (I.hok.fresh (Nat.le_refl _)) (fun e he => List.mem_of_mem_take (g.of_ e he)) fun e he => g.in_ e (by rw [List.take_length]; exact he)⟩
  rcases hl with hl | hl
  · obtain ⟨its, rv, pl, hz⟩ := I.list hl
    exact set_of_list ks (I.ok.hd hc) pl.isList (by simpa using refs_back' rv) (fun e he => elV_el I (hk e he)) few (by omega) out
  · obtain ⟨its, rv, pl, hz⟩ := I.tuple hl
    exact set_of_tuple ks (I.ok.hd hc) pl (by simpa using refs_back' rv) (fun e he => elV_el I (hk e he)) few (by omega) out
/-! ### sorted -/
theorem each_of {R : Value → Elm → Prop} {f : Elm → Value} : ∀ {L : List Elm}, (∀ e ∈ L, R (f e) e) → PySem.W.EachIs R (L.map f) L
  | [], _ => .nil
  | e :: L, al => .cons (al e List.mem_cons_self) (each_of fun g hg => al g (List.mem_cons_of_mem _ hg))
theorem each_ref : ∀ {us : List Value} {L : List Elm}, PySem.W.EachIs (fun v (e : Elm) => v = Value.ref e.1) us L → us = L.map fun e => Value.ref e.1
  | _, _, .nil => rfl
  | _, _, .cons h t => by rw [h, each_ref t]; rfl
theorem le_total : PySem.W.TotalLe leE := PySem.W.sortLe_total (listOrd itemOrd) false fun g : Elm => PySem.W.keyToks g.2.data
theorem sort_perm (L : List Elm) : (L.mergeSort leE).Perm L := List.mergeSort_perm L leE
/-- refs in another order -/
theorem refs_perm {L : List Elm} : ∀ {vs : List Value}, (∀ v ∈ vs, ∃ e ∈ L, v = Value.ref e.1) → ∃ M : List Elm, vs = M.map (fun e => Value.ref e.1) ∧ ∀ e ∈ M, e ∈ L
  | [], _ => ⟨[], rfl, fun _ h => nomatch h⟩
  | v :: vs, al => by
    obtain ⟨e, he, z⟩ := al v List.mem_cons_self
    obtain ⟨M, h1, h2⟩ := refs_perm fun u hu => al u (List.mem_cons_of_mem _ hu)
    exact ⟨e :: M, by rw [z, h1]; rfl, fun f hf => (List.mem_cons.mp hf).elim (fun q => by rw [q]; exact he) (h2 f)⟩
theorem sorted_setN {P : Program} {w : World} {A : Around} {E : Value → Shared → Prop} {s : Shared} {a : Addr} {L : List Elm} {es : Array (Int × Value)} {ep : Nat} {t : SetTable} {Q : Value → Shared → Prop} (R : SetN w s.heap a L es ep t) (hh : A.handled = none) (hu : A.units + 20 < cLine)
    (rd : ∀ e ∈ L, ∃ as, Reads s.heap (.ref e.1) e.2.data as) (al : PySem.W.AllAlike (L.map fun e => e.2.data)) (so : PySem.W.Sortable (L.map fun e => e.2.data))
    (q : ∀ s' p (out : Array Value) (c : Nat) (L' : List Elm), (∀ b o, s.heap.get? b = some o → s'.heap.get? b = some o) → s'.gens = s.gens → s'.os = s.os → s.heap.objs.size ≤ p → s'.heap.get? p = some (seqObj "list" out c) → out.toList = L'.map (fun e => Value.ref e.1) → L'.Perm L → L'.Pairwise (fun e f => leE e f = true) → Q (.ref p) s') :
    wpAny (model P w) A (call (.builtin "sorted") [.ref a]) Q E s := by
  obtain ⟨o, ho, hx, hd⟩ := R.obj
  have sz := ents_len R.ents
  have few := R.few
  refine Calls.call_function_entry kind_sorted plain_sorted entry_sorted (args_sorted1 _) ?_
  unfold Builtin.«sorted»
  refine wpAny_bind (m := checkCount "sorted" 1 1 _) (wpAny_pure ?_)
  refine wpAny_bind (collect_set (A := A.in1) hh ⟨o, ho, hx.1, hd⟩ R.fits (by unfold scanBound; omega) R.tab.ris R.led fun s1 vs k1 hz g1 o1 pm => ?_)
  have e0 : es.toList.map (·.2) = L.map fun e => Value.ref e.1 := by
    rw [R.ents]
    unfold ents
    rw [List.map_map]
    rfl
  rw [e0] at pm
  obtain ⟨M, hM, sub⟩ := refs_perm (L := L) (vs := vs) fun v hv => by
    obtain ⟨e, he, z⟩ := List.mem_map.mp (pm.mem_iff.mp hv)
    exact ⟨e, he, z.symm⟩
  have nL : L.Nodup := nodup_of_map R.uniq
  have nR : (L.map fun e => Value.ref e.1).Nodup := List.pairwise_map.mpr (nL.imp_of_mem fun {e f} he hf ne z => ne (El.one (R.els e he) (R.els f hf) (by injection z)))
  have nM : M.Nodup := nodup_of_map (by rw [← hM]; exact pm.nodup_iff.mpr nR)
  have pM : M.Perm L := (List.perm_ext_iff_of_nodup nM nL).mpr fun e => ⟨sub e, fun he => by
    have z : Value.ref e.1 ∈ M.map (fun e => Value.ref e.1) := by rw [← hM]; exact pm.mem_iff.mpr (List.mem_map.mpr ⟨e, he, rfl⟩)
    obtain ⟨f, hf, z⟩ := List.mem_map.mp z
    rw [← El.one (R.els f (sub f hf)) (R.els e he) (by injection z)]
    exact hf⟩
  have vl : vs.length = M.length := by rw [hM, List.length_map]
  have mp : ∀ d, d ∈ M.map (fun e => e.2.data) → d ∈ L.map (fun e => e.2.data) := fun d => (pM.map _).mem_iff.mp
  have Ml : M.length < 64 := by rw [pM.length_eq]; exact few
  refine wpAny_bind (wpAny_newList ?_ (by rw [vl, sizeLine_eq]; omega))
  have hL : (s1.heap.push (seqObj "list" vs.toArray 0)).get? s1.heap.objs.size = some (seqObj "list" vs.toArray 0) := Heap.get?_push_size _ rfl
  have rdM : PySem.W.EachIs (fun v (e : Elm) => ∃ as, Reads (s1.heap.push (seqObj "list" vs.toArray 0)) v e.2.data as ∧ s1.heap.objs.size ∉ as) vs M := by
    rw [hM]
    refine each_of fun e he => ?_
    obtain ⟨as, r⟩ := rd e (sub e he)
    have r2 := PyProof.Rows.Reads.keeps (h' := s1.heap.push (seqObj "list" (M.map fun e => Value.ref e.1).toArray 0)) (fun b u z => Heap.get?_push_of_some _ (k1 b u z)) r
    exact ⟨as, r2, by rw [(key_reads _ _ _ r).2]; simp⟩
  refine wpAny_bind (wpAny_holding (PySem.W.list_sort_data (s := { s1 with heap := s1.heap.push (seqObj "list" vs.toArray 0) }) (R := fun v (e : Elm) => v = Value.ref e.1) (enc := fun e => e.2.data) (bs := M) hL (by rw [hM]; exact each_of fun e _ => rfl) rdM (fun d hd d' hd' => al d (mp d hd) d' (mp d' hd')) ?_ (by rw [sizeLine_eq]; omega) (fun e he => ?_) fun out hl hr => ?_))
  · rcases so with z | z
    · exact .inl fun d hd => z d (mp d hd)
    · exact .inr fun d hd => z d (mp d hd)
  · rw [data_depth]
    have := (R.els e (sub e he)).2
    simp only [Around.in1_units]
    omega
  obtain ⟨c, hc⟩ := sortedHeap_at (vs := vs) (out := out.toArray) hL
  refine wpAny_pure ⟨_, rfl, q _ s1.heap.objs.size out.toArray c (M.mergeSort leE) (fun b u z => ?_) g1 o1 hz hc (each_ref hr) ((sort_perm M).trans pM) (PySem.W.sort_pairwise le_total M)⟩
  have z1 := k1 b u z
  have lt := Heap.lt_size z1
  show (sortedHeap (s1.heap.push (seqObj "list" vs.toArray 0)) s1.heap.objs.size vs out.toArray).get? b = some u
  rw [sortedHeap_old (Nat.ne_of_lt lt) (by rw [size_push']; exact Nat.lt_succ_of_lt lt)]
  exact Heap.get?_push_of_some _ z1
def rSortedN (K : PySem.W.Frag) (w : World) : List V → Hp → VK → Prop := fun vs H Q => ∃ (a : Addr) (L : List Elm), vs = [V.ref a] ∧ H a = some (SetNO w a L) ∧ (∀ e ∈ L, ElV K H e) ∧ PySem.W.AllAlike (L.map fun e => e.2.data) ∧ PySem.W.Sortable (L.map fun e => e.2.data) ∧
  ∀ (L' : List Elm) (p : Addr), L'.Perm L → (L'.map (·.2)).Nodup → L'.length < 64 → L'.Pairwise (fun e f => leE e f = true) → H p = none → Q (.ref p) (upd H p (.lst (L'.map fun e => V.ref e.1)))
theorem cr_sortedN (hc : X.calm = true) (hu : X.A.units + 64 < cLine) : CallR X (.builtin "sorted") (rSortedN X.K X.w) := by
  intro pins s σ H vs us Q I r h
  obtain ⟨a, L, rfl, ha, hk, al, so, q⟩ := h
  have R0 : Set0 X.w s.heap a L := (I.hok a _ ha).1
  obtain ⟨es, ep, t, R⟩ := R0.whole fun e he => elV_el I (hk e he)
  rw [Vals.ref1 r]
  refine sorted_setN R (I.ok.hd hc) (by omega) (fun e he => Dp.reads I _ _ (Value.ref e.1) (hk e he).1 rfl) al so fun s' p out c L' k g o hp hg hout pm pw => ?_
  have few : L'.length < 64 := by rw [pm.length_eq]; exact R.few
  have hn : H p = none := I.hok.fresh hp
  have len : (L'.map fun e => V.ref e.1).length ≤ sizeLine := by rw [List.length_map, sizeLine_eq]; omega
  have J : Inv X pins σ (upd H p (.lst (L'.map fun e => V.ref e.1))) { s with heap := s'.heap, gens := s'.gens, drawn := s'.drawn, toks := s'.toks } :=
    I.call (ch := []) (Un.laid k hp hn) (I.hok.laid k hp ⟨len, out.toList, c, by rw [hout]; exact refs_vals L', hg⟩) (by rw [g]; exact I.bare) (fun _ z => nomatch z)
  have e : s' = { s with heap := s'.heap, gens := s'.gens, drawn := s'.drawn, toks := s'.toks } := by
    cases s'
    cases s
    cases o
    rfl
  rw [e]
  exact ⟨.ref p, _, J, rfl, q L' p pm ((pm.map (·.2)).nodup_iff.mpr R.uniq) few pw hn⟩
/-- sorted(xs), xs a list -/
def rSortedLN (K : PySem.W.Frag) : List V → Hp → VK → Prop := fun vs H Q => ∃ (a : Addr) (L : List Elm), vs = [V.ref a] ∧ SqL K H a (L.map fun e => V.ref e.1) ∧ (∀ e ∈ L, ElV K H e) ∧ PySem.W.AllAlike (L.map fun e => e.2.data) ∧ PySem.W.Sortable (L.map fun e => e.2.data) ∧
  ∀ (L' : List Elm) (p : Addr), L'.Perm L → L'.Pairwise (fun e f => leE e f = true) → H p = none → Q (.ref p) (upd H p (.lst (L'.map fun e => V.ref e.1)))
theorem cr_sortedLN (hu : X.A.units + 64 < cLine) : CallR X (.builtin "sorted") (rSortedLN X.K) := by
  intro pins s σ H vs us Q I r h
  obtain ⟨a, L, rfl, hs, hk, al, so, q⟩ := h
  obtain ⟨its, rv, hl, hz⟩ := I.list hs
  rw [Vals.ref1 r]
  have ei := refs_back' rv
  rw [List.length_map] at hz
  refine PySem.W.sorted_data hl.isList (R := fun v (e : Elm) => v = Value.ref e.1) (enc := fun e => e.2.data) (bs := L) (by rw [ei]; exact each_of fun e _ => rfl) (by rw [ei]; exact each_of fun e he => Dp.reads I _ _ (Value.ref e.1) (hk e he).1 rfl) al so hz (fun e he => ?_) fun out h1 h2 => ?_
  · rw [data_depth]
    have := (hk e he).2
    omega
  have pm := sort_perm L
  have len : ((L.mergeSort leE).map fun e => V.ref e.1).length ≤ sizeLine := by rw [List.length_map, pm.length_eq]; exact hz
  obtain ⟨ep, he'⟩ := PyProof.Rows.sortedAll_at s.heap its out.toArray
  exact ⟨.ref _, upd H (s.heap.objs.size + 1) (.lst ((L.mergeSort leE).map fun e => V.ref e.1)), I.laid (t' := s.toks) (fun _ _ => PyProof.Rows.sortedAll_old) (Nat.le_succ _) ⟨len, out, ep, by rw [each_ref h2]; exact refs_vals _, he'⟩, rfl, q _ _ pm (PySem.W.sort_pairwise le_total L) (I.hok.fresh (Nat.le_succ _))⟩
end
end LL
set_option maxHeartbeats 2000000
/-! The claims of a demand, ascending, each once. -/
namespace K10
open PySem PySem.Spec PyProof.Rows L2 Evl LL
def keyP (x : Str × Int) : NestedKey := .tup [.text x.1, .num x.2]
theorem keyP_data (x : Str × Int) : (keyP x).data = plD x := rfl
theorem keyP_inj {x y : Str × Int} (h : keyP x = keyP y) : x = y := by
  obtain ⟨a, b⟩ := x
  obtain ⟨c, d⟩ := y
  simp only [keyP, NestedKey.tup.injEq, List.cons.injEq, NestedKey.text.injEq, NestedKey.num.injEq, and_true] at h
  rw [h.1, h.2]
theorem keyP_depth (x : Str × Int) : (keyP x).depth = 1 := by simp [keyP, NestedKey.depth, NestedKey.depthAll]
/-- the order of claims -/
def leP (x y : Str × Int) : Bool := !PySem.W.dataLt (plD y) (plD x)
theorem plD_alike (x y : Str × Int) : PySem.W.alike (plD x) (plD y) = true := by simp [plD, PySem.W.alike, PySem.W.alikeAll]
def Dm.cl : Dm → Pool
  | .claim nm n => [(nm, n)]
  | .both a b => a.cl ++ b.cl
  | .either a b => a.cl ++ b.cl
def clO : Option Dm → Pool
  | none => []
  | some d => d.cl
theorem Dm.over_iff {ps : Pool} : ∀ d : Dm, d.Over ps ↔ ∀ x ∈ d.cl, x ∈ ps
  | .claim nm n => by simp [Dm.Over, Dm.cl]
  | .both a b => by simp only [Dm.Over, Dm.cl, List.mem_append, Dm.over_iff a, Dm.over_iff b, or_imp, forall_and]
  | .either a b => by simp only [Dm.Over, Dm.cl, List.mem_append, Dm.over_iff a, Dm.over_iff b, or_imp, forall_and]
/-- pigeons, of anything -/
theorem nodup_le {α : Type} [DecidableEq α] : ∀ (l m : List α), l.Nodup → (∀ x ∈ l, x ∈ m) → l.length ≤ m.length
  | [], _, _, _ => Nat.zero_le _
  | x :: l, m, hn, hs => by
    obtain ⟨h1, h2⟩ := List.nodup_cons.mp hn
    have hx := hs x List.mem_cons_self
    have ih := nodup_le l (m.erase x) h2 fun y hy => (List.mem_erase_of_ne fun e => h1 (by rw [← e]; exact hy)).2 (hs y (List.mem_cons_of_mem _ hy))
    have e := List.length_erase_of_mem hx
    have hp : 0 < m.length := List.length_pos_of_mem hx
    rw [List.length_cons]
    omega
structure ClOk (cs : Pool) : Prop where
  nd : cs.Nodup
  asc : cs.Pairwise fun x y => leP x y = true
/-- the elements that stand in a list of claims -/
theorem elms_of {K : PySem.W.Frag} {H : Hp} : ∀ {cs : Pool} {us : List V}, All2 (cs.map IsPl) us H → ∃ es : List Elm, us = es.map (fun e => V.ref e.1) ∧ es.map (·.2) = cs.map keyP ∧ ∀ e ∈ es, ElV K H e
  | [], _, .nil => ⟨[], rfl, rfl, fun _ h => nomatch h⟩
  | c :: cs, _, .cons h hs => by
    obtain ⟨a, rfl, ha⟩ := h
    obtain ⟨es, h1, h2, h3⟩ := elms_of hs
    refine ⟨(a, keyP c) :: es, by rw [h1]; rfl, by rw [List.map_cons, List.map_cons, h2], fun e he => ?_⟩
    rcases List.mem_cons.mp he with z | z
    · rw [z]
      exact ⟨.tup (st_of ha) (.cons (.str _) (.cons (.int _) .nil)), by show (keyP c).depth ≤ 8; rw [keyP_depth]; decide⟩
    · exact h3 e z
/-- of elements that are claims -/
theorem of_elms {K : PySem.W.Frag} {H : Hp} : ∀ {es : List Elm} {ks : Pool}, (∀ e ∈ es, ∃ c ∈ ks, e.2 = keyP c ∧ IsPl c (.ref e.1) H) → ∃ cs : Pool, es.map (·.2) = cs.map keyP ∧ All2 (cs.map IsPl) (es.map fun e => V.ref e.1) H ∧ ∀ c ∈ cs, c ∈ ks
  | [], _, _ => ⟨[], rfl, .nil, fun _ h => nomatch h⟩
  | e :: es, ks, al => by
    obtain ⟨c, hc, h1, h2⟩ := al e List.mem_cons_self
    obtain ⟨cs, g1, g2, g3⟩ := of_elms (K := K) (es := es) (ks := ks) fun f hf => al f (List.mem_cons_of_mem _ hf)
    refine ⟨c :: cs, by rw [List.map_cons, List.map_cons, h1, g1], .cons h2 g2, fun x hx => ?_⟩
    rcases List.mem_cons.mp hx with z | z
    · rw [z]
      exact hc
    · exact g3 x z
theorem asc_of : ∀ {es : List Elm} {cs : Pool}, es.map (·.2) = cs.map keyP → es.Pairwise (fun e f => leE e f = true) → cs.Pairwise fun x y => leP x y = true := by
  intro es cs h p
  have q : (es.map (·.2)).Pairwise fun k l => (!PySem.W.dataLt l.data k.data) = true := List.pairwise_map.mpr p
  rw [h] at q
  exact List.pairwise_map.mp q
def spClaims (d : Nat) : Sp := fun vs H Q _ => ∃ (v : V) (o : Option Dm) (ps : Pool), vs = [v] ∧ IsDO o v H ∧ deepO o ≤ d ∧ OverO ps o ∧ ps.length ≤ 31 ∧
  ∀ q us cs H', Ex H H' → H q = none → H' q = some (.lst us) → All2 (cs.map IsPl) us H' → ClOk cs → (∀ x, x ∈ cs ↔ x ∈ clO o) → Q (.ref q) H'
structure Fcl (P : Program) (w : World) (K : PySem.W.Frag) (mg : Str → Option Value) (base : Heap) (d : Nat) : Prop where
  sorted : mg "sorted" = none
  set : mg "set" = none
  h_law_claims : Has P w K mg base CX0 "_law_claims" d ["demand"] (spClaims d)
section
variable {P : Program} {w : World} {K : PySem.W.Frag} {mg : Str → Option Value} {base : Heap} {f : Addr} {fd : FuncData}
theorem scClaims : FnScope ["demand"] ["demand"] (defScope (top 16)) := ⟨rfl, rfl, rfl, by decide +kernel, rfl, by decide +kernel, by decide +kernel⟩
theorem ok_claims (d : Nat) (F : FnT K "_law_claims" (top 16) f fd) (T : Fcl P w K mg base d) : FnOk P w K mg base CX0 (d + 1) f fd ["demand"] (spClaims (d + 1)) := by
  have sc := scClaims
  refine F.ok scClaims (fun vs H Q E h => ?_) (fun cdv A outer s H vs Q E hr h => ?_)
  · obtain ⟨_, _, _, rfl, _⟩ := h
    rfl
  have hu := hr.un
  have hu : (A.deeper (envOfC "_law_claims" (defScope (top 16)) s.heap.objs.size f cdv)).units + 64 < cLine := by omega
  refine ⟨_, PSs.nox (pss_cons (ps_if (pt_cmpR op_isN (pv 0) pe_non (nomark _)) (pss_one (ps_ret (pe_lst pa_nil))) pss_nil)
      (pss_cons (ps_if (pt_cmpR op_eq (pe_ix ix_tup (pv 0) pe_int (fun _ _ => rfl)) pe_str (nomark _)) (pss_one (ps_ret (pe_lst (pa_cons (pe_slice sl_tup (pv 0) (po_some pe_int) po_none) pa_nil)))) pss_nil)
      (pss_one (ps_ret (pe_callB (cr_sortedN rfl hu) (by rfl) T.sorted (by decide +kernel) (pa_cons (pe_callTy (cr_setN rfl hu) (by rfl) T.set (by decide +kernel) (pa_cons (pe_op op_cat (pe_callH (hj := by omega) T.h_law_claims hr pass0 (pa_cons (pe_ix ix_tup (pv 0) pe_int (fun _ _ => rfl)) pa_nil)) (pe_callH (hj := by omega) T.h_law_claims hr pass0 (pa_cons (pe_ix ix_tup (pv 0) pe_int (fun _ _ => rfl)) pa_nil))) pa_nil)) pa_nil)))))), ?_⟩
  obtain ⟨v, o, ps, rfl, hv, hd, ov, pl, k⟩ := h
  cases o with
  | none =>
    have hv : v = .non := hv
    subst hv
    exact q_when (b := true) (et_is (et_test (ev_op (ev_var rfl) ev_c (fun H1 _ Q q => ⟨rfl, q H1 (Ex.refl H1)⟩))) (by simp)) (fun _ H1 e1 => s_retL (el_lst ea_nil (by decide)) fun p H2 hp e2 h2 => k p [] [] H2 (e1.trans e2) (fresh_back e1 hp) h2 .nil ⟨List.nodup_nil, List.Pairwise.nil⟩ (fun x => by simp [clO])) (fun z => nomatch z)
  | some D =>
    have hv : Dv H v D := hv
    have ov : D.Over ps := ov
    have hd : D.deep ≤ d + 1 := hd
    have which : (∃ a nm n, v = .ref a ∧ D = .claim nm n ∧ H a = some (.tup [.str "claim", .str nm, .int n])) ∨ ∃ (a : Addr) (hd1 : Str) (u1 u2 : V) (x y : Dm), v = .ref a ∧ H a = some (.tup [.str hd1, u1, u2]) ∧ hd1 ≠ "claim" ∧ Dv H u1 x ∧ Dv H u2 y ∧ x.deep ≤ d ∧ y.deep ≤ d ∧ x.Over ps ∧ y.Over ps ∧ D.cl = x.cl ++ y.cl := by
      cases hv with
      | @claim a nm n h => exact .inl ⟨a, nm, n, rfl, rfl, h⟩
      | @both a u1 u2 x y h hx hy =>
        have hd : max x.deep y.deep + 1 ≤ d + 1 := hd
        exact .inr ⟨a, "both", u1, u2, x, y, rfl, h, by decide, hx, hy, by omega, by omega, ov.1, ov.2, rfl⟩
      | @either a u1 u2 x y h hx hy =>
        have hd : max x.deep y.deep + 1 ≤ d + 1 := hd
        exact .inr ⟨a, "either", u1, u2, x, y, rfl, h, by decide, hx, hy, by omega, by omega, ov.1, ov.2, rfl⟩
    rcases which with ⟨a, nm, n, rfl, rfl, h⟩ | ⟨a, hd1, u1, u2, x, y, rfl, ha, hc, hx, hy, dx, dy, ox, oy, ecl⟩
    · refine q_when (b := false) (et_is (et_test (ev_op (ev_var rfl) ev_c (fun H1 _ Q q => ⟨rfl, q H1 (Ex.refl H1)⟩))) (by simp)) (fun z => nomatch z) (fun _ H1 e1 => ?_)
      refine q_when (b := true) (et_is (et_test (ev_op (ev_op (ev_var rfl) ev_c (rv_ixT (st_of (e1 _ _ h)) (atI_nat (j := 0) rfl))) ev_c (rv_eq rfl))) (by simp)) (fun _ H2 e2 => ?_) (fun z => nomatch z)
      have e12 := e1.trans e2
      refine ⟨_, rfl, 1, rfl, a, .str "claim" :: [.str nm, .int n], rfl, st_of (e12 _ _ h), cut1_no _ _, fun tp htp => ⟨by show 1 ≤ sizeLine; decide, fun q hq => ?_⟩⟩
      rw [cut1]
      have en := Ex.new (o := .tup [.str nm, .int n]) htp
      have eq := Ex.new (o := .lst [.ref tp]) hq
      refine k q _ [(nm, n)] _ ((e12.trans en).trans eq) (fresh_back (e12.trans en) hq) upd_same (.cons ⟨tp, rfl, eq _ _ upd_same⟩ .nil) ⟨by simp, by simp⟩ (fun x => by simp [clO, Dm.cl])
    · refine q_when (b := false) (et_is (et_test (ev_op (ev_var rfl) ev_c (fun H1 _ Q q => ⟨rfl, q H1 (Ex.refl H1)⟩))) (by simp)) (fun z => nomatch z) (fun _ H1 e1 => ?_)
      refine q_when (b := false) (et_is (et_test (ev_op (ev_op (ev_var rfl) ev_c (rv_ixT (st_of (e1 _ _ ha)) (atI_nat (j := 0) rfl))) ev_c (rv_eq rfl))) (decide_eq_false fun z => hc (V.str.inj z))) (fun z => nomatch z) (fun _ H2 e2 => ?_)
      have e12 := e1.trans e2
      refine ⟨_, rfl, a, _, 1, u1, rfl, rfl, st_of (e12 _ _ ha), atI_nat (j := 1) rfl, u1, some x, ps, rfl, hx.mono (TupEx.of e12), dx, ox, pl, fun q1 us1 c1 H3 e3 n1 h1 a1 o1 m1 => ?_⟩
      have e13 := e12.trans e3
      refine ⟨_, rfl, a, _, 2, u2, rfl, rfl, st_of (e13 _ _ ha), atI_nat (j := 2) rfl, u2, some y, ps, rfl, hy.mono (TupEx.of e13), dy, oy, pl, fun q2 us2 c2 H4 e4 n2 h2 a2 o2 m2 => ?_⟩
      have e14 := e13.trans e4
      have l1 := nodup_le c1 ps o1.nd fun z hz => (Dm.over_iff x).mp ox z ((m1 z).mp hz)
      have l2 := nodup_le c2 ps o2.nd fun z hz => (Dm.over_iff y).mp oy z ((m2 z).mp hz)
      have al1 := a1.len
      have al2 := a2.len
      rw [List.length_map] at al1 al2
      refine ⟨q1, q2, us1, us2, rfl, rfl, e4 _ _ h1, h2, sz_of (by omega), fun r hr => ?_⟩
      have ex := Ex.new (o := .lst (us1 ++ us2)) hr
      have aa : All2 ((c1 ++ c2).map IsPl) (us1 ++ us2) (L2.upd H4 r (.lst (us1 ++ us2))) := by
        rw [List.map_append]
        exact All2.app (All2.monT pool_monT (TupEx.of (e4.trans ex)) a1) (All2.monT pool_monT (TupEx.of ex) a2)
      obtain ⟨es, z1, z2, z3⟩ := elms_of (K := K) aa
      have len : es.length = (c1 ++ c2).length := by
        have := congrArg List.length z2
        simpa using this
      rw [List.length_append] at len
      refine ⟨r, es, rfl, .inl (by rw [← z1]; exact sq_of upd_same), z3, by omega, fun sa L nsa sub cov => ?_⟩
      have ex2 := Ex.new (o := SetNO w sa L) nsa
      have mem : ∀ e ∈ L, ∃ c ∈ c1 ++ c2, e.2 = keyP c ∧ IsPl c (.ref e.1) (L2.upd H4 r (.lst (us1 ++ us2))) := fun e he => by
        have hm := sub e he
        obtain ⟨i, hi⟩ := List.getElem?_of_mem hm
        have g1 : (us1 ++ us2)[i]? = some (V.ref e.1) := by rw [z1, List.getElem?_map, hi]; rfl
        obtain ⟨R, hR, rr⟩ := all2_get aa g1
        rw [List.getElem?_map] at hR
        obtain ⟨c, hc, rfl⟩ := Option.map_eq_some_iff.mp hR
        refine ⟨c, List.mem_of_getElem? hc, ?_, rr⟩
        have g2 : (es.map (·.2))[i]? = some e.2 := by rw [List.getElem?_map, hi]; rfl
        rw [z2, List.getElem?_map, hc] at g2
        exact (Option.some.inj g2).symm
      have alk : ∀ d, d ∈ L.map (fun e => e.2.data) → ∃ c, d = plD c := fun d hd => by
        obtain ⟨e, he, rfl⟩ := List.mem_map.mp hd
        obtain ⟨c, _, h1, _⟩ := mem e he
        exact ⟨c, by rw [h1]; rfl⟩
      refine ⟨sa, L, rfl, upd_same, fun e he => ?_, fun d1 h1 d2 h2 => ?_, .inl fun d1 h1 => ?_, fun L' p pm nd few pw np => ?_⟩
      · obtain ⟨g1, g2⟩ := z3 e (sub e he)
        exact ⟨dp_ex ex2 g1, g2⟩
      · obtain ⟨x1, rfl⟩ := alk d1 h1
        obtain ⟨x2, rfl⟩ := alk d2 h2
        exact plD_alike x1 x2
      · obtain ⟨x1, rfl⟩ := alk d1 h1
        exact ⟨_, _, rfl⟩
      have ex3 := Ex.new (o := .lst (L'.map fun e => V.ref e.1)) np
      obtain ⟨cs, y1, y2, y3⟩ := of_elms (K := K) (es := L') (ks := c1 ++ c2) (H := L2.upd (L2.upd (L2.upd H4 r (.lst (us1 ++ us2))) sa (SetNO w sa L)) p (.lst (L'.map fun e => V.ref e.1))) fun e he => by
        obtain ⟨c, h1, h2, h3⟩ := mem e (pm.mem_iff.mp he)
        exact ⟨c, h1, h2, IsPl.monT _ _ _ (TupEx.of (ex2.trans ex3)) h3⟩
      rw [y1] at nd
      refine k p _ cs _ (((e14.trans ex).trans ex2).trans ex3) (fresh_back ((e14.trans ex).trans ex2) np) upd_same y2 ⟨?_, asc_of y1 pw⟩ fun z => ?_
      · exact (List.pairwise_map.mp nd).imp fun {x y} h e => h (by rw [e])
      · show z ∈ cs ↔ z ∈ D.cl
        rw [ecl, List.mem_append]
        have m1 : z ∈ c1 ↔ z ∈ x.cl := m1 z
        have m2 : z ∈ c2 ↔ z ∈ y.cl := m2 z
        rw [← m1, ← m2, ← List.mem_append]
        refine ⟨fun h => y3 z h, fun h => ?_⟩
        have k1 : keyP z ∈ es.map (·.2) := by rw [z2]; exact List.mem_map.mpr ⟨z, h, rfl⟩
        obtain ⟨e, he, ke⟩ := List.mem_map.mp k1
        have k2 := cov e he
        rw [ke, ← (pm.map (·.2)).mem_iff, y1] at k2
        obtain ⟨c, hc, e2⟩ := List.mem_map.mp k2
        rw [← keyP_inj e2]
        exact hc
/-- as deep as one likes -/
theorem claims_all (F : FnT K "_law_claims" (top 16) f fd) (zs : mg "sorted" = none) (ze : mg "set" = none) (hm : mg "_law_claims" = some (.ref f)) (hk : PySem.W.keepIn K (.ref f) = true) (hb : Binds K fd ["demand"] []) : ∀ d, FnOk P w K mg base CX0 d f fd ["demand"] (spClaims d)
  | 0 => ⟨fun vs H Q E h => by obtain ⟨_, _, _, rfl, _⟩ := h; rfl, fun A outer s H args us vs Q E hr he hbb hv h => by
    obtain ⟨_, o, _, _, _, h2, _⟩ := h
    cases o with
    | none => exact absurd h2 (by decide)
    | some D =>
      have h2 : D.deep ≤ 0 := h2
      cases D with
      | claim _ _ => exact absurd h2 (by show ¬ 1 ≤ 0; decide)
      | both _ _ => exact absurd h2 (by show ¬ (_ + 1 ≤ 0); omega)
      | either _ _ => exact absurd h2 (by show ¬ (_ + 1 ≤ 0); omega)⟩
  | d + 1 => ok_claims d F ⟨zs, ze, ⟨f, fd, hm, hk, hb, claims_all F zs ze hm hk hb d⟩⟩
end
end K10
set_option maxHeartbeats 4000000
/-! sorted(set(xs)), sorted(xs) of nested tuples, told by what the items are. -/
namespace LL
open PySem PySem.Spec PyProof.Rows L2 Evl
/-- things that stand in the heap as nested tuples -/
structure EKind {α : Type} (IsE : α → VP) (key : α → NestedKey) : Prop where
  inj : ∀ x y, key x = key y → x = y
  dep : ∀ x, (key x).depth ≤ 8
  mon : ∀ x, MonT (IsE x)
  ref : ∀ x v H, IsE x v H → ∃ a, v = .ref a
  dp : ∀ (K : PySem.W.Frag) x v H, IsE x v H → Dp K H v (key x).data
/-- ascending -/
def leK {α : Type} (key : α → NestedKey) (x y : α) : Bool := !PySem.W.dataLt (key y).data (key x).data
section
variable {α : Type} {IsE : α → VP} {key : α → NestedKey} {K : PySem.W.Frag} {w : World} {σ : L2.St} {H : Hp} {te ta tb : TE} {ks : List α}
theorem EKind.monL (E : EKind IsE key) (ks : List α) : ∀ R ∈ ks.map IsE, MonT R := fun R hR => by
  obtain ⟨x, _, rfl⟩ := List.mem_map.mp hR
  exact E.mon x
theorem EKind.elms (E : EKind IsE key) : ∀ {ks : List α} {us : List V}, All2 (ks.map IsE) us H → ∃ es : List Elm, us = es.map (fun e => V.ref e.1) ∧ es.map (·.2) = ks.map key ∧ ∀ e ∈ es, ElV K H e
  | [], _, .nil => ⟨[], rfl, rfl, fun _ h => nomatch h⟩
  | k :: ks, _, .cons h hs => by
    obtain ⟨a, rfl⟩ := E.ref _ _ _ h
    obtain ⟨es, h1, h2, h3⟩ := E.elms hs
    refine ⟨(a, key k) :: es, by rw [h1]; rfl, by rw [List.map_cons, List.map_cons, h2], fun e he => ?_⟩
    rcases List.mem_cons.mp he with z | z
    · rw [z]
      exact ⟨E.dp K k _ _ h, E.dep k⟩
    · exact h3 e z
theorem EKind.back (E : EKind IsE key) : ∀ {es : List Elm}, (∀ e ∈ es, ∃ c ∈ ks, e.2 = key c ∧ IsE c (.ref e.1) H) → ∃ cs : List α, es.map (·.2) = cs.map key ∧ All2 (cs.map IsE) (es.map fun e => V.ref e.1) H ∧ ∀ c ∈ cs, c ∈ ks
  | [], _ => ⟨[], rfl, .nil, fun _ h => nomatch h⟩
  | e :: es, al => by
    obtain ⟨c, hc, h1, h2⟩ := al e List.mem_cons_self
    obtain ⟨cs, g1, g2, g3⟩ := EKind.back E (es := es) fun f hf => al f (List.mem_cons_of_mem _ hf)
    refine ⟨c :: cs, by rw [List.map_cons, List.map_cons, h1, g1], .cons h2 g2, fun x hx => ?_⟩
    rcases List.mem_cons.mp hx with z | z
    · rw [z]
      exact hc
    · exact g3 x z
theorem asc_key {es : List Elm} {cs : List α} (h : es.map (·.2) = cs.map key) (p : es.Pairwise fun e f => leE e f = true) : cs.Pairwise fun x y => leK key x y = true := by
  have q : (es.map (·.2)).Pairwise fun k l => (!PySem.W.dataLt l.data k.data) = true := List.pairwise_map.mpr p
  rw [h] at q
  exact List.pairwise_map.mp q
/-- a list or a tuple of these -/
def SeqE (IsE : α → VP) (ks : List α) : VP := fun v H => ∃ r us, v = .ref r ∧ (H r = some (.lst us) ∨ H r = some (.tup us)) ∧ All2 (ks.map IsE) us H
/-- a new list of these, ascending, each once -/
def SetE (IsE : α → VP) (key : α → NestedKey) (H0 : Hp) (ks : List α) : VP := fun v H => ∃ (p : Addr) (us : List V) (cs : List α), v = .ref p ∧ H0 p = none ∧ H p = some (.lst us) ∧ All2 (cs.map IsE) us H ∧ cs.Nodup ∧ (cs.Pairwise fun x y => leK key x y = true) ∧ (∀ z, z ∈ cs ↔ z ∈ ks) ∧ cs.length < 64
/-- a new list of these, ascending -/
def SrtE (IsE : α → VP) (key : α → NestedKey) (H0 : Hp) (ks : List α) : VP := fun v H => ∃ (p : Addr) (us : List V) (cs : List α), v = .ref p ∧ H0 p = none ∧ H p = some (.lst us) ∧ All2 (cs.map IsE) us H ∧ cs.Perm ks ∧ (cs.Pairwise fun x y => leK key x y = true)
theorem elm_of (E : EKind IsE key) {us : List V} {es : List Elm} (al : All2 (ks.map IsE) us H) (h1 : us = es.map fun e => V.ref e.1) (h2 : es.map (·.2) = ks.map key) {e : Elm} (he : e ∈ es) : ∃ c ∈ ks, e.2 = key c ∧ IsE c (.ref e.1) H := by
  obtain ⟨i, hi⟩ := List.getElem?_of_mem he
  have g1 : us[i]? = some (V.ref e.1) := by rw [h1, List.getElem?_map, hi]; rfl
  obtain ⟨R, hR, rr⟩ := all2_get al g1
  rw [List.getElem?_map] at hR
  obtain ⟨c, hc, rfl⟩ := Option.map_eq_some_iff.mp hR
  refine ⟨c, List.mem_of_getElem? hc, ?_, rr⟩
  have g2 : (es.map (·.2))[i]? = some e.2 := by rw [List.getElem?_map, hi]; rfl
  rw [h2, List.getElem?_map, hc] at g2
  exact (Option.some.inj g2).symm
theorem x_sset (E : EKind IsE key) (al : ∀ x ∈ ks, ∀ y ∈ ks, PySem.W.alike (key x).data (key y).data = true) (so : ∀ x ∈ ks, ∃ d ds, (key x).data = .tuple (d :: ds)) (few : ks.length < 64) (h : EvX te σ H (SeqE IsE ks)) :
    EvX (tCB (rSortedN K w) (tCons (tCB (rSetN K w) (tCons te tNil)) tNil)) σ H (SetE IsE key H ks) := fun H1 e Q q => h H1 e _ fun v H2 e2 r => by
  obtain ⟨r, us, rfl, hr, all_⟩ := r
  obtain ⟨es, z1, z2, z3⟩ := E.elms (K := K) all_
  have len : es.length = ks.length := by
    have := congrArg List.length z2
    simpa using this
  refine ⟨r, es, rfl, ?_, z3, by omega, fun sa L nsa sub cov => ?_⟩
  · rw [← z1]
    exact hr.elim (fun h => .inl (sq_of h)) fun h => .inr (st_of h)
  have ex2 := Ex.new (o := SetNO w sa L) nsa
  have mem : ∀ e ∈ L, ∃ c ∈ ks, e.2 = key c ∧ IsE c (.ref e.1) H2 := fun e he => elm_of E all_ z1 z2 (sub e he)
  have dat : ∀ d, d ∈ L.map (fun e => e.2.data) → ∃ c ∈ ks, d = (key c).data := fun d hd => by
    obtain ⟨e, he, rfl⟩ := List.mem_map.mp hd
    obtain ⟨c, hc, h1, _⟩ := mem e he
    exact ⟨c, hc, by rw [h1]⟩
  refine ⟨sa, L, rfl, upd_same, fun e he => ?_, fun d1 h1 d2 h2 => ?_, .inl fun d1 h1 => ?_, fun L' p pm nd few2 pw np => ?_⟩
  · obtain ⟨g1, g2⟩ := z3 e (sub e he)
    exact ⟨dp_ex ex2 g1, g2⟩
  · obtain ⟨x1, k1, rfl⟩ := dat d1 h1
    obtain ⟨x2, k2, rfl⟩ := dat d2 h2
    exact al x1 k1 x2 k2
  · obtain ⟨x1, k1, rfl⟩ := dat d1 h1
    exact so x1 k1
  have ex3 := Ex.new (o := .lst (L'.map fun e => V.ref e.1)) np
  obtain ⟨cs, y1, y2, y3⟩ := E.back (es := L') (ks := ks) (H := L2.upd (L2.upd H2 sa (SetNO w sa L)) p (.lst (L'.map fun e => V.ref e.1))) fun e he => by
    obtain ⟨c, h1, h2, h3⟩ := mem e (pm.mem_iff.mp he)
    exact ⟨c, h1, h2, E.mon c _ _ _ (TupEx.of (ex2.trans ex3)) h3⟩
  rw [y1] at nd
  have lc : cs.length = L'.length := by
    have := congrArg List.length y1
    simpa using this.symm
  refine q _ _ ((e2.trans ex2).trans ex3) ⟨p, _, cs, rfl, fresh_back (((e.trans e2)).trans ex2) np, upd_same, y2, (List.pairwise_map.mp nd).imp fun {x y} h e => h (by rw [e]), asc_key y1 pw, fun z => ⟨fun h => y3 z h, fun h => ?_⟩, by rw [lc]; exact few2⟩
  have k1 : key z ∈ es.map (·.2) := by rw [z2]; exact List.mem_map.mpr ⟨z, h, rfl⟩
  obtain ⟨e, he, ke⟩ := List.mem_map.mp k1
  have k2 := cov e he
  rw [ke, ← (pm.map (·.2)).mem_iff, y1] at k2
  obtain ⟨c, hc, e2⟩ := List.mem_map.mp k2
  rw [← E.inj _ _ e2]
  exact hc
theorem x_srt (E : EKind IsE key) (al : ∀ x ∈ ks, ∀ y ∈ ks, PySem.W.alike (key x).data (key y).data = true) (so : ∀ x ∈ ks, ∃ d ds, (key x).data = .tuple (d :: ds)) (h : EvX te σ H (fun v H' => ∃ r us, v = .ref r ∧ H' r = some (.lst us) ∧ All2 (ks.map IsE) us H')) :
    EvX (tCB (rSortedLN K) (tCons te tNil)) σ H (SrtE IsE key H ks) := fun H1 e Q q => h H1 e _ fun v H2 e2 r => by
  obtain ⟨r, us, rfl, hr, all_⟩ := r
  obtain ⟨es, z1, z2, z3⟩ := E.elms (K := K) all_
  have dat : ∀ d, d ∈ es.map (fun e => e.2.data) → ∃ c ∈ ks, d = (key c).data := fun d hd => by
    obtain ⟨e, he, rfl⟩ := List.mem_map.mp hd
    obtain ⟨c, hc, h1, _⟩ := elm_of E all_ z1 z2 he
    exact ⟨c, hc, by rw [h1]⟩
  refine ⟨r, es, rfl, by rw [← z1]; exact sq_of hr, z3, fun d1 h1 d2 h2 => ?_, .inl fun d1 h1 => ?_, fun L' p pm pw np => ?_⟩
  · obtain ⟨x1, k1, rfl⟩ := dat d1 h1
    obtain ⟨x2, k2, rfl⟩ := dat d2 h2
    exact al x1 k1 x2 k2
  · obtain ⟨x1, k1, rfl⟩ := dat d1 h1
    exact so x1 k1
  have ex3 := Ex.new (o := .lst (L'.map fun e => V.ref e.1)) np
  obtain ⟨cs, y1, y2, y3⟩ := E.back (es := L') (ks := ks) (H := L2.upd H2 p (.lst (L'.map fun e => V.ref e.1))) fun e he => by
    obtain ⟨c, h1, h2, h3⟩ := elm_of E all_ z1 z2 (pm.mem_iff.mp he)
    exact ⟨c, h1, h2, E.mon c _ _ _ (TupEx.of ex3) h3⟩
  refine q _ _ (e2.trans ex3) ⟨p, _, cs, rfl, fresh_back (e.trans e2) np, upd_same, y2, ?_, asc_key y1 pw⟩
  have pk : (cs.map key).Perm (ks.map key) := by rw [← y1, ← z2]; exact pm.map _
  -- the key tells the thing
  have inj : ∀ {l m : List α}, (l.map key).Perm (m.map key) → l.Perm m := by
    intro l m pm
    induction l generalizing m with
    | nil =>
      have := pm.length_eq
      rw [List.length_map, List.length_map] at this
      rw [List.length_eq_zero_iff.mp this.symm]
    | cons x l ih =>
      have hx : key x ∈ m.map key := pm.mem_iff.mp List.mem_cons_self
      obtain ⟨y, hy, ey⟩ := List.mem_map.mp hx
      have := E.inj _ _ ey
      subst this
      obtain ⟨s, t, rfl⟩ := List.append_of_mem hy
      have p2 : ((y :: (s ++ t)).map key).Perm ((s ++ y :: t).map key) := List.perm_middle.symm.map key
      have p3 := (pm.trans p2.symm).cons_inv
      exact ((ih p3).cons y).trans List.perm_middle.symm
  exact inj pk
end
/-- ascending lists of the same things, each once, are one -/
theorem asc_unique {α : Type} {le : α → α → Prop} (anti : ∀ x y, le x y → le y x → x = y) : ∀ {l m : List α}, l.Perm m → l.Pairwise le → m.Pairwise le → l = m
  | [], m, p, _, _ => (List.nil_perm.mp p).symm
  | x :: l, [], p, _, _ => nomatch (List.perm_nil.mp p)
  | x :: l, y :: m, p, h1, h2 => by
    have e : x = y := by
      have hx : x ∈ y :: m := p.mem_iff.mp List.mem_cons_self
      have hy : y ∈ x :: l := p.mem_iff.mpr List.mem_cons_self
      rcases List.mem_cons.mp hx with z | z
      · exact z
      rcases List.mem_cons.mp hy with z2 | z2
      · exact z2.symm
      exact anti x y ((List.pairwise_cons.mp h1).1 y z2) ((List.pairwise_cons.mp h2).1 x z)
    subst e
    rw [asc_unique anti p.cons_inv (List.pairwise_cons.mp h1).2 (List.pairwise_cons.mp h2).2]
theorem op_neDK {X : Cx} {K : PySem.W.Frag} (hK : X.K = K) (hu : X.A.units + 64 < cLine) : OpR X (compareOp .NotEq) (rNeD K) := by
  subst hK
  exact op_neD hu
theorem op_eqDK {X : Cx} {K : PySem.W.Frag} (hK : X.K = K) (hu : X.A.units + 64 < cLine) : OpR X (compareOp .Eq) (rEqD K) := by
  subst hK
  exact op_eqD hu
theorem cr_anyK {X : Cx} {K : PySem.W.Frag} (hK : X.K = K) (hc : X.calm = true) : CallR X (.builtin "any") (rAny K) := by
  subst hK
  exact cr_any hc
theorem cr_allK {X : Cx} {K : PySem.W.Frag} (hK : X.K = K) (hc : X.calm = true) : CallR X (.builtin "all") (rAll K) := by
  subst hK
  exact cr_all hc
theorem pi_listK {X : Cx} {K : PySem.W.Frag} {tg l : Expr} {tl : TE} (hK : X.K = K) (hl : PE X l tl) : PI X tg l (iList K tl) := by
  subst hK
  exact pi_list hl
theorem pi_tupK {X : Cx} {K : PySem.W.Frag} {tg l : Expr} {tl : TE} (hK : X.K = K) (hl : PE X l tl) : PI X tg l (iTup K tl) := by
  subst hK
  exact pi_tup hl
theorem ix_listK {X : Cx} {K : PySem.W.Frag} (hK : X.K = K) : IxR X (rIxL K) := by
  subst hK
  exact ix_list
theorem cr_sortedNK {X : Cx} {K : PySem.W.Frag} {w : World} (hK : X.K = K) (hw : X.w = w) (hc : X.calm = true) (hu : X.A.units + 64 < cLine) : CallR X (.builtin "sorted") (rSortedN K w) := by
  subst hK hw
  exact cr_sortedN hc hu
theorem cr_setNK {X : Cx} {K : PySem.W.Frag} {w : World} (hK : X.K = K) (hw : X.w = w) (hc : X.calm = true) (hu : X.A.units + 64 < cLine) : CallR X (.type "set") (rSetN K w) := by
  subst hK hw
  exact cr_setN hc hu
theorem call_tuple_ofK {X : Cx} {K : PySem.W.Frag} (hK : X.K = K) : CallR X (.type "tuple") (fun xs H Q => ∃ p ys, xs = [.ref p] ∧ ((SqL K H p ys ∧ ∀ l, H l = none → Q (.ref l) (upd H l (.tup ys))) ∨ (SqT K H p ys ∧ Q (.ref p) H))) := by
  subst hK
  exact call_tuple_of
/-- a tuple of these -/
def TupE {α : Type} (IsE : α → VP) (ks : List α) : VP := fun v H => ∃ r us, v = .ref r ∧ H r = some (.tup us) ∧ All2 (ks.map IsE) us H
theorem x_catT {α : Type} {IsE : α → VP} {key : α → NestedKey} {K : PySem.W.Frag} {σ : L2.St} {H : Hp} {ta tb : TE} {ks ls : List α} (E : EKind IsE key) (hl : ks.length + ls.length ≤ 90000) (ha : EvX ta σ H (TupE IsE ks)) (hb : EvX tb σ H (TupE IsE ls)) : EvX (tOp (rCatA K) ta tb) σ H (SeqE IsE (ks ++ ls)) := fun H1 e Q q =>
  ha H1 e _ fun v H2 e2 r => hb H2 (e.trans e2) _ fun u H3 e3 r2 => by
    obtain ⟨a, us, rfl, h1, a1⟩ := r
    obtain ⟨b, ws, rfl, h2, a2⟩ := r2
    have h1 := e3 _ _ h1
    have a1 := All2.monT (E.monL ks) (TupEx.of e3) a1
    have l1 := a1.len
    have l2 := a2.len
    rw [List.length_map] at l1 l2
    refine ⟨a, b, us, ws, rfl, rfl, st_of h1, st_of h2, sz_of (by omega), (fun z => ?_), (fun _ z => ?_), (fun _ _ l hl => ?_)⟩
    · refine q _ H3 (e2.trans e3) ⟨b, ws, rfl, .inr h2, ?_⟩
      rw [z] at l1
      rw [List.length_eq_zero_iff.mp l1]
      exact a2
    · refine q _ H3 (e2.trans e3) ⟨a, us, rfl, .inr h1, ?_⟩
      rw [z] at l2
      rw [List.length_eq_zero_iff.mp l2, List.append_nil]
      exact a1
    · have ex := Ex.new (o := .tup (us ++ ws)) hl
      refine q _ _ ((e2.trans e3).trans ex) ⟨l, us ++ ws, rfl, .inr upd_same, ?_⟩
      rw [List.map_append]
      exact All2.app (All2.monT (E.monL ks) (TupEx.of ex) a1) (All2.monT (E.monL ls) (TupEx.of ex) a2)
/-! ### a comprehension with two iterables -/
section
variable {σ σ2 : L2.St} {H H1 H4 : Hp} {J J1 : It} {n n1 : Nat} {G G1 : Hp → Prop} {Y Y1 : Nat → Hp → V → Hp → Prop} {te : TE} {tt tt1 : TT} {vs vs1 : List Nat} {g g1 : TG} {Dl : Addr} {Qd Nx : Hp → Prop} {wi1 : TI}
/-- the inner loop -/
def In2 (g1 : TG) (tt1 : TT) (te : TE) (vs1 : List Nat) (Dl : Addr) (σ2 : L2.St) (Nx : Hp → Prop) (J1 : It) (H4 : Hp) : Prop := ∃ W1 : Nat → Nat → Hp → Prop, (∃ m, W1 0 m H4) ∧ ∀ j k H, W1 j k H → (J1.stop j H ∧ Nx H) ∨ (J1.go j H ∧ ∃ Nx1 : Hp → Prop, (∀ H', Nx1 H' → ∃ k', k' < k ∧ W1 (j + 1) k' H') ∧ ∀ x H', J1.yld j H x H' → g1 x (wipe σ2 vs1) H' fun σ3 H5 => wipe σ3 vs1 = wipe σ2 vs1 ∧ tt1 σ3 H5 fun b H6 => if b = true then te σ3 H6 fun y H7 => ∃ acc, H7 Dl = some (.lst acc) ∧ acc.length < sizeLine ∧ Nx1 (upd H7 Dl (.lst (acc ++ [y]))) else Nx1 H6)
theorem in2_it (w : Walk J1 n1 G1 Y1) (Pv : Nat → Hp → Prop) (h0 : Pv 0 H4) (hG : ∀ i H, i ≤ n1 → Pv i H → G1 H)
    (hs : ∀ i x H H', i < n1 → Pv i H → Y1 i H x H' → g1 x (wipe σ2 vs1) H' fun σ3 H5 => wipe σ3 vs1 = wipe σ2 vs1 ∧ tt1 σ3 H5 fun b H6 => if b = true then te σ3 H6 fun y H7 => ∃ acc, H7 Dl = some (.lst acc) ∧ acc.length < sizeLine ∧ Pv (i + 1) (upd H7 Dl (.lst (acc ++ [y]))) else Pv (i + 1) H6) (hd : ∀ H, Pv n1 H → Nx H) : In2 g1 tt1 te vs1 Dl σ2 Nx J1 H4 := by
  refine ⟨fun i m H => m = n1 - i ∧ i ≤ n1 ∧ Pv i H, ⟨n1, by simp, Nat.zero_le _, h0⟩, ?_⟩
  rintro i m H ⟨rfl, hi, p⟩
  have q := hG i H hi p
  rcases Nat.lt_or_ge i n1 with h | h
  · refine .inr ⟨w.goes i H h q, Pv (i + 1), fun H' p' => ⟨n1 - (i + 1), by omega, rfl, by omega, p'⟩, fun x H' y => hs i x H H' h p (w.yields i H x H' h q y)⟩
  · have : i = n1 := by omega
    subst this
    exact .inl ⟨w.stops H q, hd H p⟩
theorem lc2_it (w : Walk J n G Y) (Pv : Nat → Hp → Prop) (h0 : Pv 0 (upd H1 Dl (.lst []))) (hG : ∀ i H, i ≤ n → Pv i H → G H)
    (hs : ∀ i x H H', i < n → Pv i H → Y i H x H' → g x (wipe σ vs) H' fun σ2 H2 => wipe σ2 vs = wipe σ vs ∧ tt σ2 H2 fun b H3 => if b = true then wi1 σ2 H3 fun J1 H4 => In2 g1 tt1 te vs1 Dl σ2 (Pv (i + 1)) J1 H4 else Pv (i + 1) H3) (hd : ∀ H, Pv n H → Qd H) :
    ∃ W : Nat → Nat → Hp → Prop, (∃ m, W 0 m (upd H1 Dl (.lst []))) ∧ ∀ i m H, W i m H → (J.stop i H ∧ Qd H) ∨ (J.go i H ∧ ∃ Nx : Hp → Prop, (∀ H', Nx H' → ∃ m', m' < m ∧ W (i + 1) m' H') ∧ ∀ x H', J.yld i H x H' → g x (wipe σ vs) H' fun σ2 H2 => wipe σ2 vs = wipe σ vs ∧ tt σ2 H2 fun b H3 => if b = true then wi1 σ2 H3 fun J1 H4 => In2 g1 tt1 te vs1 Dl σ2 Nx J1 H4 else Nx H3) := by
  refine ⟨fun i m H => m = n - i ∧ i ≤ n ∧ Pv i H, ⟨n, by simp, Nat.zero_le _, h0⟩, ?_⟩
  rintro i m H ⟨rfl, hi, p⟩
  have q := hG i H hi p
  rcases Nat.lt_or_ge i n with h | h
  · refine .inr ⟨w.goes i H h q, Pv (i + 1), fun H' p' => ⟨n - (i + 1), by omega, rfl, by omega, p'⟩, fun x H' y => hs i x H H' h p (w.yields i H x H' h q y)⟩
  · have : i = n := by omega
    subst this
    exact .inl ⟨w.stops H q, hd H p⟩
end
end LL
set_option maxHeartbeats 4000000
/-! Lots of claims. -/
namespace K10
open PySem PySem.Spec PyProof.Rows L2 Evl LL
abbrev Lot := Pool
def IsLot (x : Lot) : VP := fun v H => ∃ a us, v = .ref a ∧ H a = some (.tup us) ∧ All2 (x.map IsPl) us H
theorem IsLot.monT {x : Lot} : MonT (IsLot x) := fun v H H' e ⟨a, us, h1, h2, h3⟩ => ⟨a, us, h1, e _ _ h2, All2.monT pool_monT e h3⟩
theorem lots_monT {L : List Lot} : ∀ R ∈ L.map IsLot, MonT R := fun R hR => by
  obtain ⟨p, _, rfl⟩ := List.mem_map.mp hR
  exact IsLot.monT
def keyL (x : Lot) : NestedKey := .tup (x.map keyP)
def lotD (x : Lot) : PyData := .tuple (x.map plD)
theorem datas_map : ∀ x : Lot, NestedKey.datas (x.map keyP) = x.map plD
  | [] => rfl
  | y :: x => by
    rw [List.map_cons, List.map_cons]
    show (keyP y).data :: NestedKey.datas (x.map keyP) = _
    rw [datas_map x]
    rfl
theorem keyL_data (x : Lot) : (keyL x).data = lotD x := by
  show PyData.tuple (NestedKey.datas (x.map keyP)) = _
  rw [datas_map]
  rfl
theorem map_inj {α β : Type} {f : α → β} (h : ∀ x y, f x = f y → x = y) : ∀ {l m : List α}, l.map f = m.map f → l = m
  | [], [], _ => rfl
  | [], _ :: _, e => nomatch e
  | _ :: _, [], e => nomatch e
  | x :: l, y :: m, e => by
    rw [List.map_cons, List.map_cons] at e
    injection e with e1 e2
    rw [h _ _ e1, map_inj h e2]
theorem depL : ∀ x : Lot, NestedKey.depthAll (x.map keyP) ≤ 1
  | [] => by simp [NestedKey.depthAll]
  | y :: x => by
    have := depL x
    have := keyP_depth y
    simp only [List.map_cons, NestedKey.depthAll]
    omega
theorem kindP : EKind IsPl keyP := ⟨fun _ _ => keyP_inj, fun x => by rw [keyP_depth]; decide, fun _ => IsPl.monT, fun _ _ _ ⟨a, h, _⟩ => ⟨a, h⟩, fun K x v H ⟨a, h1, h2⟩ => by
  rw [h1]
  exact .tup (st_of h2) (.cons (.str _) (.cons (.int _) .nil))⟩
theorem lot_dp {K : PySem.W.Frag} {x : Lot} {v : V} {H : Hp} (h : IsLot x v H) : Dp K H v (lotD x) := by
  obtain ⟨a, us, rfl, h2, h3⟩ := h
  exact .tup (st_of h2) (dp_pls h3)
theorem kindL : EKind IsLot keyL := ⟨fun x y e => by
  unfold keyL at e
  injection e with e
  exact map_inj (fun _ _ => keyP_inj) e, fun x => by
  have := depL x
  simp only [keyL, NestedKey.depth]
  omega, fun _ => IsLot.monT, fun _ _ _ ⟨a, _, h, _⟩ => ⟨a, h⟩, fun K x v H h => by
  rw [keyL_data]
  exact lot_dp h⟩
theorem alikeAll_pls : ∀ x y : Lot, PySem.W.alikeAll (x.map plD) (y.map plD) = true
  | [], _ => by simp [PySem.W.alikeAll]
  | _ :: _, [] => by simp [PySem.W.alikeAll]
  | a :: x, b :: y => by
    rw [List.map_cons, List.map_cons, PySem.W.alikeAll, plD_alike, alikeAll_pls x y]
    rfl
theorem lot_alike (x y : Lot) : PySem.W.alike (keyL x).data (keyL y).data = true := by
  rw [keyL_data, keyL_data]
  unfold lotD
  rw [PySem.W.alike]
  exact alikeAll_pls x y
theorem pl_alike (x y : Str × Int) : PySem.W.alike (keyP x).data (keyP y).data = true := plD_alike x y
theorem lot_cons {x : Lot} (h : x ≠ []) : ∃ d ds, (keyL x).data = .tuple (d :: ds) := by
  cases x with
  | nil => exact absurd rfl h
  | cons a x => exact ⟨_, _, keyL_data _⟩
/-! ### the order: which of two unlike ones is less is settled -/
theorem toks_pl (x : Str × Int) : PySem.W.keyToks (plD x) = [.inl 1, .inr x.1.cps.toList, .inl 1, .inl x.2, .inl 0] := by
  simp [plD, PySem.W.keyToks, PySem.W.keyToksAll]
theorem cps_inj {a b : Str} (h : a.cps.toList = b.cps.toList) : a = b := PySem.W.str_of_cps h
theorem anti_pl {x y : Str × Int} (h1 : leP x y = true) (h2 : leP y x = true) : x = y := by
  unfold leP PySem.W.dataLt at h1 h2
  have e := PyProof.Rows.lex_total (O := itemOrd) _ _ (by simpa using h2) (by simpa using h1)
  rw [toks_pl, toks_pl] at e
  simp only [List.cons.injEq, Sum.inr.injEq, Sum.inl.injEq, and_true, true_and] at e
  obtain ⟨a, b⟩ := x
  obtain ⟨c, d⟩ := y
  have e1 : a = c := cps_inj e.1
  have e2 : b = d := e.2
  rw [e1, e2]
theorem toksAll_inj : ∀ x y : Lot, PySem.W.keyToksAll (x.map plD) = PySem.W.keyToksAll (y.map plD) → x = y
  | [], [], _ => rfl
  | [], b :: y, e => by
    rw [List.map_cons, PySem.W.toks_all_cons] at e
    simp [PySem.W.keyToksAll] at e
  | a :: x, [], e => by
    rw [List.map_cons, PySem.W.toks_all_cons] at e
    simp [PySem.W.keyToksAll] at e
  | a :: x, b :: y, e => by
    rw [List.map_cons, List.map_cons, PySem.W.toks_all_cons, PySem.W.toks_all_cons, toks_pl, toks_pl] at e
    simp only [List.cons_append, List.nil_append, List.cons.injEq, Sum.inr.injEq, Sum.inl.injEq, true_and] at e
    obtain ⟨e1, e2, e3⟩ := e
    rw [toksAll_inj x y e3]
    obtain ⟨a, i⟩ := a
    obtain ⟨b, j⟩ := b
    have e1 : a = b := cps_inj e1
    have e2 : i = j := e2
    rw [e1, e2]
theorem anti_lot {x y : Lot} (h1 : leK keyL x y = true) (h2 : leK keyL y x = true) : x = y := by
  unfold leK PySem.W.dataLt at h1 h2
  rw [keyL_data, keyL_data] at h1 h2
  have e := PyProof.Rows.lex_total (O := itemOrd) _ _ (by simpa using h2) (by simpa using h1)
  refine toksAll_inj x y ?_
  simpa [lotD, PySem.W.keyToks] using e
/-- ascending lots of the same claims are one -/
theorem ClOk.uniq {x y : Lot} (hx : ClOk x) (hy : ClOk y) (h : ∀ z, z ∈ x ↔ z ∈ y) : x = y :=
  asc_unique (le := fun a b => leP a b = true) (fun _ _ => anti_pl) ((List.perm_ext_iff_of_nodup hx.nd hy.nd).mpr h) hx.asc hy.asc
structure LsOk (L : List Lot) : Prop where
  nd : L.Nodup
  asc : L.Pairwise fun x y => leK keyL x y = true
theorem LsOk.uniq {L M : List Lot} (hx : LsOk L) (hy : LsOk M) (h : ∀ z, z ∈ L ↔ z ∈ M) : L = M :=
  asc_unique (le := fun a b => leK keyL a b = true) (fun _ _ => anti_lot) ((List.perm_ext_iff_of_nodup hx.nd hy.nd).mpr h) hx.asc hy.asc
/-- true by claims -/
def Dm.Sat (S : Str × Int → Prop) : Dm → Prop
  | .claim nm n => S (nm, n)
  | .both a b => a.Sat S ∧ b.Sat S
  | .either a b => a.Sat S ∨ b.Sat S
def SatO (S : Str × Int → Prop) : Option Dm → Prop
  | none => True
  | some d => d.Sat S
theorem Dm.on_sat (lt : Pool) : ∀ d : Dm, d.On lt ↔ d.Sat (· ∈ lt)
  | .claim _ _ => Iff.rfl
  | .both a b => by unfold Dm.On Dm.Sat; rw [Dm.on_sat lt a, Dm.on_sat lt b]
  | .either a b => by unfold Dm.On Dm.Sat; rw [Dm.on_sat lt a, Dm.on_sat lt b]
theorem onO_sat (lt : Pool) : ∀ o : Option Dm, OnO lt o ↔ SatO (· ∈ lt) o
  | none => Iff.rfl
  | some d => d.on_sat lt
theorem Dm.sat_cong {S T : Str × Int → Prop} : ∀ d : Dm, (∀ z ∈ d.cl, S z ↔ T z) → (d.Sat S ↔ d.Sat T)
  | .claim nm n, h => h (nm, n) (by simp [Dm.cl])
  | .both a b, h => by
    have ha := Dm.sat_cong a fun z hz => h z (List.mem_append_left _ hz)
    have hb := Dm.sat_cong b fun z hz => h z (List.mem_append_right _ hz)
    unfold Dm.Sat
    rw [ha, hb]
  | .either a b, h => by
    have ha := Dm.sat_cong a fun z hz => h z (List.mem_append_left _ hz)
    have hb := Dm.sat_cong b fun z hz => h z (List.mem_append_right _ hz)
    unfold Dm.Sat
    rw [ha, hb]
theorem satO_cong {S T : Str × Int → Prop} : ∀ o : Option Dm, (∀ z ∈ clO o, S z ↔ T z) → (SatO S o ↔ SatO T o)
  | none, _ => Iff.rfl
  | some d, h => d.sat_cong h
/-- the width of a demand's lots -/
def wd : Nat → Nat
  | 0 => 1
  | n + 1 => max (wd n * wd n) (2 * wd n)
theorem wd_pos : ∀ n, 1 ≤ wd n
  | 0 => Nat.le_refl _
  | n + 1 => by have := wd_pos n; simp only [wd]; omega
theorem wd_mono {m n : Nat} (h : m ≤ n) : wd m ≤ wd n := by
  induction n with
  | zero => rw [Nat.le_zero.mp h]; exact Nat.le_refl _
  | succ n ih =>
    rcases Nat.lt_or_ge m (n + 1) with q | q
    · have := ih (by omega)
      simp only [wd]
      omega
    · rw [Nat.le_antisymm h q]
      exact Nat.le_refl _
/-- lots that a demand asks: right ones, none within another one -/
structure Gd (L : List Lot) (o : Option Dm) : Prop where
  cl : ∀ a ∈ L, ClOk a
  in_ : ∀ a ∈ L, ∀ z ∈ a, z ∈ clO o
  ok : LsOk L
  mini : ∀ a ∈ L, ∀ b ∈ L, (∀ z ∈ b, z ∈ a) → b = a
  sat : ∀ S, SatO S o ↔ ∃ a ∈ L, ∀ z ∈ a, S z
  len : L.length ≤ wd (deepO o - 1)
/-- below each there is a least one -/
theorem least_below {U : List Lot} (cl : ∀ a ∈ U, ClOk a) : ∀ (n : Nat) (a : Lot), a ∈ U → a.length ≤ n → ∃ b ∈ U, (∀ z ∈ b, z ∈ a) ∧ ∀ c ∈ U, (∀ z ∈ c, z ∈ b) → c = b
  | n, a, ha, hn => by
    by_cases h : ∀ c ∈ U, (∀ z ∈ c, z ∈ a) → c = a
    · exact ⟨a, ha, fun _ h => h, h⟩
    · have h : ∃ c, c ∈ U ∧ (∀ z ∈ c, z ∈ a) ∧ c ≠ a := by
        rcases Classical.em (∃ c, c ∈ U ∧ (∀ z ∈ c, z ∈ a) ∧ c ≠ a) with q | q
        · exact q
        · exact absurd (fun c hc hz => Classical.byContradiction fun ne => q ⟨c, hc, hz, ne⟩) h
      obtain ⟨c, hc, sub, ne⟩ := h
      have le := nodup_leD c a (cl c hc).nd sub
      have lt : c.length < a.length := by
        rcases Nat.lt_or_ge c.length a.length with q | q
        · exact q
        · exfalso
          refine ne ((cl c hc).uniq (cl a ha) fun z => ⟨sub z, fun hz => ?_⟩)
          rcases Classical.em (z ∈ c) with k | k
          · exact k
          · have := nodup_leD (z :: c) a (List.nodup_cons.mpr ⟨k, (cl c hc).nd⟩) fun y hy => by
              rcases List.mem_cons.mp hy with e | e
              · rw [e]; exact hz
              · exact sub y e
            rw [List.length_cons] at this
            omega
      cases n with
      | zero => omega
      | succ n =>
        obtain ⟨b, hb, s1, s2⟩ := least_below cl n c hc (by omega)
        exact ⟨b, hb, fun z hz => sub z (s1 z hz), s2⟩
end K10
set_option maxHeartbeats 4000000
/-! The program's own: has_all, least_lots, joined. -/
namespace K10
open PySem PySem.Spec PyProof.Rows L2 Evl LL
def Wo (a : Lot) : Prop := ∀ z ∈ a, PyData.strOk z.1 = true
theorem lot_shaped {a : Lot} (h : Wo a) : SeqAt.shaped (lotD a) = true := by
  obtain ⟨x, y⟩ := pls_lay a h
  simp only [SeqAt.shaped, lotD, PyData.canLay0, PyData.depth, x, Bool.true_and]
  exact decide_eq_true (by omega)
mutual
theorem eqv_refl_lay : ∀ d : PyData, d.canLay0 = true → PyData.eqv d d = true
  | d, h => SeqAt.eqv_refl d h
end
theorem eqvAll_pls : ∀ a b : Lot, PyData.eqvAll (a.map plD) (b.map plD) = decide (a = b)
  | [], [] => by simp [PyData.eqvAll]
  | [], _ :: _ => by simp [PyData.eqvAll]
  | _ :: _, [] => by simp [PyData.eqvAll]
  | x :: a, y :: b => by
    rw [List.map_cons, List.map_cons, PyData.eqvAll, plD_eqv, eqvAll_pls a b]
    by_cases h1 : x = y
    · by_cases h2 : a = b
      · simp [h1, h2]
      · simp [h1, h2]
    · simp [h1]
theorem lot_eqv (a b : Lot) : PyData.eqv (lotD a) (lotD b) = decide (a = b) := by
  unfold lotD
  rw [PyData.eqv]
  exact eqvAll_pls a b
def spHas : Sp := fun vs H Q _ => ∃ (v w : V) (a b : Lot), vs = [v, w] ∧ IsLot a v H ∧ IsLot b w H ∧ Wo a ∧ Wo b ∧ b.length ≤ 1000 ∧ ∀ r H', Ex H H' → (r = true ↔ ∀ z ∈ b, z ∈ a) → Q (.bl r) H'
structure Fha (P : Program) (w : World) (K : PySem.W.Frag) (mg : Str → Option Value) (base : Heap) : Prop where
  all : mg "all" = none
/-- all so far -/
theorem all_snoc {α : Type} {p : α → Prop} {bs : List Bool} {b : Bool} {xs : List α} {x : α} (h : bs.all id = true ↔ ∀ z ∈ xs, p z) (hb : b = true ↔ p x) : (bs ++ [b]).all id = true ↔ ∀ z ∈ xs ++ [x], p z := by
  rw [List.all_append, Bool.and_eq_true, h]
  constructor
  · rintro ⟨h1, h2⟩ z hz
    rcases List.mem_append.mp hz with q | q
    · exact h1 z q
    · rw [List.mem_singleton.mp q]
      exact hb.mp (by simpa using h2)
  · intro h
    exact ⟨fun z hz => h z (List.mem_append_left _ hz), by simpa using hb.mpr (h x (by simp))⟩
theorem any_snoc {α : Type} {p : α → Prop} {bs : List Bool} {b : Bool} {xs : List α} {x : α} (h : bs.any id = true ↔ ∃ z ∈ xs, p z) (hb : b = true ↔ p x) : (bs ++ [b]).any id = true ↔ ∃ z ∈ xs ++ [x], p z := by
  rw [List.any_append, Bool.or_eq_true, h]
  constructor
  · rintro (⟨z, h1, h2⟩ | h2)
    · exact ⟨z, List.mem_append_left _ h1, h2⟩
    · exact ⟨x, by simp, hb.mp (by simpa using h2)⟩
  · rintro ⟨z, h1, h2⟩
    rcases List.mem_append.mp h1 with q | q
    · exact .inl ⟨z, q, h2⟩
    · rw [List.mem_singleton.mp q] at h2
      exact .inr (by simpa using hb.mpr h2)
theorem take_snoc {α : Type} {xs : List α} {i : Nat} {x : α} (h : xs[i]? = some x) : xs.take (i + 1) = xs.take i ++ [x] := by rw [List.take_succ, h]; rfl
section
variable {P : Program} {w : World} {K : PySem.W.Frag} {mg : Str → Option Value} {base : Heap} {f : Addr} {fd : FuncData}
theorem scHas : FnScope ["lot", "other", "pair"] ["lot", "other"] (defScope (top 5)) := ⟨rfl, rfl, rfl, by decide +kernel, rfl, by decide +kernel, by decide +kernel⟩
theorem ok_has (F : FnT K "has_all" (top 5) f fd) (T : Fha P w K mg base) : FnOk P w K mg base CX0 1 f fd ["lot", "other"] spHas := by
  have sc := scHas
  refine F.ok scHas (fun vs H Q E h => ?_) (fun cdv A outer s H vs Q E hr h => ?_)
  · obtain ⟨_, _, _, _, rfl, _⟩ := h
    rfl
  have hu := hr.un
  have hu : (A.deeper (envOfC "has_all" (defScope (top 5)) s.heap.objs.size f cdv)).units + 65 < cLine := by omega
  refine ⟨_, PSs.nox (pss_one (ps_ret (pe_callB (cr_all rfl) (by rfl) T.all (by decide +kernel) (pa_cons (pe_lc (own := [("pair", 2)]) (tt := tYes) rfl sc.nd (pi_tup (pv 1)) (blkOk_by (N := ["lot", "other", "pair"]) (sc := defScope (top 5)) (by decide +kernel)) (fun _ _ _ _ _ => (pg_name (i := 2) sc.nd rfl (Or.inl rfl))) (fun _ _ _ _ _ => pts_nil) (fun _ _ _ _ _ => (pe_cmpR (op_inDTK rfl hu) (pv 2) (pv 0) (by rfl)))) pa_nil)))), ?_⟩
  obtain ⟨v, u, a, b, rfl, ha, hb, wa, wb, bl, k⟩ := h
  obtain ⟨q, us, rfl, hq, ub⟩ := hb
  have lu := ub.len
  rw [List.length_map] at lu
  refine ⟨_, rfl, q, rfl, ⟨_, st_of hq⟩, fun Dl hD => ?_⟩
  have eD := Ex.new (o := .lst []) hD
  refine lcJ (walk_tup (xs := us)) (fun i ys G => ∃ bs : List Bool, ys = bs.map V.bl ∧ (bs.all id = true ↔ ∀ z ∈ b.take i, z ∈ a) ∧ Ex H G) ?_ (fun i ys G _ ⟨_, _, _, e⟩ => st_of (e _ _ hq)) ?_ ?_
  · exact ⟨[], rfl, by simp, eD⟩
  · rintro i x ys G G' hi ly hDl ⟨bs, rfl, iff_, ex⟩ ⟨rfl, hx⟩
    obtain ⟨R, hR, rr⟩ := all2_get ub hx
    rw [List.getElem?_map] at hR
    obtain ⟨c, hc, rfl⟩ := Option.map_eq_some_iff.mp hR
    have cm := List.mem_of_getElem? hc
    obtain ⟨t, rfl, ht⟩ := IsPl.monT _ _ _ (TupEx.of ex) rr
    refine ⟨rfl, ?_⟩
    refine ⟨_, rfl, _, rfl, plD c, a.map plD, .tup (st_of ht) (.cons (.str _) (.cons (.int _) .nil)), lot_dp (IsLot.monT _ _ _ (TupEx.of ex) ha), pl_shaped (wb c cm), lot_shaped wa, ?_⟩
    rw [pls_any]
    refine NxL.of ly (by omega) hDl ⟨bs ++ [decide (c ∈ a)], by rw [List.map_append]; rfl, ?_, ex.mut hD⟩
    rw [take_snoc hc]
    exact all_snoc iff_ (by simp)
  · rintro ys G ly hDl ⟨bs, rfl, iff_, ex⟩
    refine ⟨Dl, bs, rfl, sq_of hDl, k _ G ex ?_⟩
    rw [iff_, ← lu, List.take_length]
end
def isMin (U : List Lot) (a : Lot) : Bool := decide (∀ b ∈ U, (∀ z ∈ b, z ∈ a) → b = a)
def spLeast : Sp := fun vs H Q _ => ∃ (p : Addr) (us : List V) (L : List Lot), vs = [.ref p] ∧ H p = some (.lst us) ∧ All2 (L.map IsLot) us H ∧ L.length < 64 ∧ (∀ a ∈ L, ClOk a ∧ Wo a ∧ a ≠ [] ∧ a.length ≤ 1000) ∧
  ∀ q ws M H', Ex H H' → H q = none → H' q = some (.lst ws) → All2 (M.map IsLot) ws H' → LsOk M → (∀ a ∈ M, a ∈ L) → (∀ a ∈ M, ∀ b ∈ L, (∀ z ∈ b, z ∈ a) → b = a) → (∀ a ∈ L, ∃ b ∈ M, ∀ z ∈ b, z ∈ a) → Q (.ref q) H'
structure Fle (P : Program) (w : World) (K : PySem.W.Frag) (mg : Str → Option Value) (base : Heap) : Prop where
  sorted : mg "sorted" = none
  set : mg "set" = none
  any : mg "any" = none
  hhas_all : Has P w K mg base CX0 "has_all" 1 ["lot", "other"] spHas
section
variable {P : Program} {w : World} {K : PySem.W.Frag} {mg : Str → Option Value} {base : Heap} {f : Addr} {fd : FuncData}
theorem scLeast : FnScope ["lots", "unlike", "lot", "other"] ["lots"] (defScope (top 4)) := ⟨rfl, rfl, rfl, by decide +kernel, rfl, by decide +kernel, by decide +kernel⟩
theorem ok_least (F : FnT K "least_lots" (top 4) f fd) (T : Fle P w K mg base) : FnOk P w K mg base CX0 2 f fd ["lots"] spLeast := by
  have sc := scLeast
  refine F.ok scLeast (fun vs H Q E h => ?_) (fun cdv A outer s H vs Q E hr h => ?_)
  · obtain ⟨_, _, _, rfl, _⟩ := h
    rfl
  have hu := hr.un
  have hu4 : (A.deeper (envOfC "least_lots" (defScope (top 4)) s.heap.objs.size f cdv)).units + 64 < cLine := by omega
  refine ⟨_, PSs.nox (pss_cons (ps_set (i := 1) sc.nd rfl (Or.inr rfl) (pe_callB (cr_sortedN rfl hu4) (by rfl) T.sorted (by decide +kernel) (pa_cons (pe_callTy (cr_setN rfl hu4) (by rfl) T.set (by decide +kernel) (pa_cons (pv 0) pa_nil)) pa_nil)))
      (pss_one (ps_ret (pe_lc (own := [("lot", 2)]) rfl sc.nd (pi_list (pv 1)) (blkOk_by (N := ["lots", "unlike", "lot", "other"]) (sc := defScope (top 4)) (by decide +kernel)) (fun _ _ _ _ _ => (pg_name (i := 2) sc.nd rfl (Or.inr rfl))) (fun _ _ _ _ _ => by exact (pts_one (pt_not (pt_val (pe_callB (cr_anyK rfl rfl) (by rfl) T.any (by decide +kernel) (pa_cons (pe_lc (own := [("other", 3)]) (tt := tYes) rfl sc.nd (pi_listK rfl (pv 1)) (by exact (blkOk_by (N := ["lots", "unlike", "lot", "other"]) (sc := relS _ (defScope (top 4))) (by decide +kernel))) (fun _ _ _ _ _ => (pg_name (i := 3) sc.nd rfl (Or.inl rfl))) (fun _ _ _ _ _ => pts_nil) (fun _ _ _ _ _ => (pe_and (pe_cmpR (op_neDK rfl hr.units) (pv 2) (pv 3) (nomark _)) (pe_one (pe_callH T.hhas_all hr pass0 (pa_cons (pv 2) (pa_cons (pv 3) pa_nil))))))) pa_nil)))))) (fun _ _ _ _ _ => (pv 2)))))), ?_⟩
  obtain ⟨p, us, L, rfl, hp, al, few, ok, k⟩ := h
  refine q_asgX (x_sset kindL (fun x _ y _ => lot_alike x y) (fun x hx => lot_cons (ok x hx).2.2.1) few (x_imp (x_of (ev_var rfl)) fun v H' e ev => ⟨p, us, ev, .inl (e _ _ hp), All2.monT lots_monT (TupEx.of e) al⟩)) fun v H1 e1 r1 => ?_
  obtain ⟨q, ws, U, rfl, nq, hq, aU, nU, sU, mU, fU⟩ := r1
  refine ⟨_, rfl, q, rfl, ⟨_, sq_of hq⟩, fun Dl hD => ?_⟩
  have eD := Ex.new (o := .lst []) hD
  have lu := aU.len
  rw [List.length_map] at lu
  refine lcT (walk_list (xs := ws)) (fun i ys G => Ex H1 G ∧ All2 (((U.take i).filter (isMin U)).map IsLot) ys G) ?_ (fun i ys G _ ⟨e, _⟩ => sq_of (e _ _ hq)) ?_ ?_
  · exact ⟨eD, .nil⟩
  · rintro i x ys G G' hi ly hDl ⟨ex, al⟩ ⟨rfl, hx⟩
    obtain ⟨R, hR, rr⟩ := all2_get aU hx
    rw [List.getElem?_map] at hR
    obtain ⟨c, hc, rfl⟩ := Option.map_eq_some_iff.mp hR
    have cm := List.mem_of_getElem? hc
    obtain ⟨_, cw, _, cl⟩ := ok c ((mU c).mp cm)
    refine ⟨rfl, ?_⟩
    refine ⟨_, rfl, q, rfl, ⟨_, sq_of (ex _ _ hq)⟩, fun Di hDi => ?_⟩
    have eDi := Ex.new (o := .lst []) hDi
    refine lcJ (walk_list (xs := ws)) (fun j zs F => ∃ bs : List Bool, zs = bs.map V.bl ∧ (bs.any id = true ↔ ∃ b ∈ U.take j, b ≠ c ∧ ∀ z ∈ b, z ∈ c) ∧ Ex G' F) ?_ (fun j zs F _ ⟨_, _, _, e⟩ => sq_of (e _ _ (ex _ _ hq))) ?_ ?_
    · exact ⟨[], rfl, by simp, eDi⟩
    · rintro j y zs F F' hj lz hDz ⟨bs, rfl, iff_, ey⟩ ⟨rfl, hy⟩
      obtain ⟨R, hR, r2⟩ := all2_get aU hy
      rw [List.getElem?_map] at hR
      obtain ⟨d, hd, rfl⟩ := Option.map_eq_some_iff.mp hR
      have dm := List.mem_of_getElem? hd
      obtain ⟨_, dw, _, dl⟩ := ok d ((mU d).mp dm)
      have r1' := IsLot.monT _ _ _ (TupEx.of (ex.trans ey)) rr
      have r2' := IsLot.monT _ _ _ (TupEx.of (ex.trans ey)) r2
      refine ⟨rfl, _, rfl, _, rfl, lotD c, lotD d, lot_dp r1', lot_dp r2', lot_shaped cw, lot_shaped dw, _, rfl, ?_⟩
      rw [lot_eqv]
      by_cases e : c = d
      · rw [decide_eq_true e]
        rw [if_neg (by decide)]
        refine NxL.of lz (by omega) hDz ⟨bs ++ [false], by rw [List.map_append]; rfl, ?_, ey.mut hDi⟩
        rw [take_snoc hd]
        exact any_snoc (p := fun b => b ≠ c ∧ ∀ z ∈ b, z ∈ c) iff_ ⟨(fun h => nomatch h), fun h => absurd e.symm h.1⟩
      · rw [decide_eq_false e, if_pos (by decide)]
        refine ⟨_, rfl, _, rfl, _, _, c, d, rfl, r1', r2', cw, dw, dl, fun r F2 e2 hr2 => ?_⟩
        refine NxL.of lz (by omega) (e2 _ _ hDz) ⟨bs ++ [r], by rw [List.map_append]; rfl, ?_, (ey.trans e2).mut hDi⟩
        rw [take_snoc hd]
        exact any_snoc (p := fun b => b ≠ c ∧ ∀ z ∈ b, z ∈ c) iff_ (hr2.trans ⟨fun h => ⟨fun z => e z.symm, h⟩, fun h => h.2⟩)
    · rintro zs F lz hDz ⟨bs, rfl, iff_, ey⟩
      refine ⟨Di, bs, rfl, sq_of hDz, _, rfl, ?_⟩
      rw [← lu, List.take_length] at iff_
      have al' := All2.monT lots_monT (TupEx.of ey) al
      by_cases b : bs.any id = true
      · rw [b]
        refine ⟨ys, by omega, ey _ _ hDl, ex.trans ey, ?_⟩
        have no : isMin U c = false := decide_eq_false fun h => by
          obtain ⟨d, dm, ne, sub⟩ := iff_.mp b
          exact ne (h d dm sub)
        rw [take_snoc hc, List.filter_append, List.filter_cons_of_neg (by rw [no]; decide), List.filter_nil, List.append_nil]
        exact al'
      · have b' : bs.any id = false := by simpa using b
        rw [b']
        have yes : isMin U c = true := decide_eq_true fun d dm sub => Classical.byContradiction fun ne => b (iff_.mpr ⟨d, dm, ne, sub⟩)
        refine ⟨_, rfl, NxT.of ly (by omega) (ey _ _ hDl) ⟨(ex.trans ey).mut hD, ?_⟩⟩
        rw [take_snoc hc, List.filter_append, List.filter_cons_of_pos yes, List.filter_nil, List.map_append]
        have te := TupEx.lst (ys := ys ++ [x]) (ey _ _ hDl)
        exact All2.app (All2.monT lots_monT te al') (.cons (IsLot.monT _ _ _ te (IsLot.monT _ _ _ (TupEx.of (ex.trans ey)) rr)) .nil)
  · rintro ys G ly hDl ⟨ex, al⟩
    rw [← lu, List.take_length] at al
    refine k Dl ys _ G (e1.trans ex) (fresh_back e1 hD) hDl al ⟨nU.filter _, sU.filter _⟩ (fun a ha => (mU a).mp (List.mem_filter.mp ha).1) (fun a ha b hb sub => of_decide_eq_true (List.mem_filter.mp ha).2 b ((mU b).mpr hb) sub) fun a ha => ?_
    obtain ⟨b, hb, h1, h2⟩ := least_below (U := U) (fun a ha => (ok a ((mU a).mp ha)).1) a.length a ((mU a).mpr ha) (Nat.le_refl _)
    exact ⟨b, List.mem_filter.mpr ⟨hb, decide_eq_true h2⟩, h1⟩
end
end K10
set_option maxHeartbeats 4000000
/-! The program's own: joined. -/
namespace K10
open PySem PySem.Spec PyProof.Rows L2 Evl LL
/-- the lots of one and of the other -/
def prs (A B : List Lot) : List (Lot × Lot) := A.flatMap fun a => B.map (Prod.mk a)
theorem prs_len (B : List Lot) : ∀ A : List Lot, (prs A B).length = A.length * B.length
  | [] => by simp [prs]
  | a :: A => by
    have := prs_len B A
    unfold prs at this ⊢
    rw [List.flatMap_cons, List.length_append, this, List.length_map, List.length_cons, Nat.succ_mul, Nat.add_comm]
theorem prs_snoc (A B : List Lot) (a : Lot) : prs (A ++ [a]) B = prs A B ++ B.map (Prod.mk a) := by simp [prs]
theorem prs_mem {A B : List Lot} {p : Lot × Lot} : p ∈ prs A B ↔ p.1 ∈ A ∧ p.2 ∈ B := by
  obtain ⟨a, b⟩ := p
  simp only [prs, List.mem_flatMap, List.mem_map, Prod.mk.injEq]
  constructor
  · rintro ⟨x, hx, y, hy, rfl, rfl⟩
    exact ⟨hx, hy⟩
  · rintro ⟨h1, h2⟩
    exact ⟨a, h1, b, h2, rfl, rfl⟩
abbrev Both (p : Lot × Lot) (m : Lot) : Prop := ClOk m ∧ ∀ z, z ∈ m ↔ z ∈ p.1 ∨ z ∈ p.2
def spJoin : Sp := fun vs H Q _ => ∃ (p q : Addr) (us ws : List V) (A B : List Lot), vs = [.ref p, .ref q] ∧ H p = some (.lst us) ∧ H q = some (.lst ws) ∧ All2 (A.map IsLot) us H ∧ All2 (B.map IsLot) ws H ∧ A.length * B.length ≤ 1000 ∧ (∀ a ∈ A, ∀ b ∈ B, a.length + b.length < 64) ∧
  ∀ l xs M H', Ex H H' → H l = none → H' l = some (.lst xs) → All2 (M.map IsLot) xs H' → Paired Both (prs A B) M → Q (.ref l) H'
structure Fjo (P : Program) (w : World) (K : PySem.W.Frag) (mg : Str → Option Value) (base : Heap) : Prop where
  sorted : mg "sorted" = none
  set : mg "set" = none
  tuple : mg "tuple" = none
section
variable {P : Program} {w : World} {K : PySem.W.Frag} {mg : Str → Option Value} {base : Heap} {f : Addr} {fd : FuncData}
theorem scJoin : FnScope ["lots", "others", "lot", "other"] ["lots", "others"] (defScope (top 3)) := ⟨rfl, rfl, rfl, by decide +kernel, rfl, by decide +kernel, by decide +kernel⟩
theorem ok_join (F : FnT K "joined" (top 3) f fd) (T : Fjo P w K mg base) : FnOk P w K mg base CX0 1 f fd ["lots", "others"] spJoin := by
  have sc := scJoin
  refine F.ok scJoin (fun vs H Q E h => ?_) (fun cdv A outer s H vs Q E hr h => ?_)
  · obtain ⟨_, _, _, _, _, _, rfl, _⟩ := h
    rfl
  have hu := hr.un
  have hu4 : (A.deeper (envOfC "joined" (defScope (top 3)) s.heap.objs.size f cdv)).units + 64 < cLine := by omega
  refine ⟨_, PSs.nox (pss_one (ps_ret (pe_lc2 (own := [("lot", 2), ("other", 3)]) (vs1 := [3]) (tt := tYes) (tt1 := tYes) rfl sc.nd (pi_list (pv 0)) (blkOk_by (N := ["lots", "others", "lot", "other"]) (sc := defScope (top 3)) (by decide +kernel)) (by decide) (fun _ _ _ _ _ => (pg_name (i := 2) sc.nd rfl (Or.inl rfl))) (fun _ _ _ _ _ => pts_nil) (fun _ _ _ _ _ => (pi_listK rfl (pv 1))) (fun _ _ _ _ _ => (pg_name (i := 3) sc.nd rfl (Or.inl rfl))) (fun _ _ _ _ _ => pts_nil) (fun _ _ _ _ _ => (pe_callTy (call_tuple_ofK rfl) (by rfl) T.tuple (by decide +kernel) (pa_cons (pe_callB (cr_sortedNK rfl rfl rfl hu4) (by rfl) T.sorted (by decide +kernel) (pa_cons (pe_callTy (cr_setNK rfl rfl rfl hu4) (by rfl) T.set (by decide +kernel) (pa_cons (pe_op (op_catAK rfl) (pv 2) (pv 3)) pa_nil)) pa_nil)) pa_nil)))))), ?_⟩
  obtain ⟨p, q, us, ws, A, B, rfl, hp, hq, aA, aB, big, small, k⟩ := h
  have lA := aA.len
  have lB := aB.len
  rw [List.length_map] at lA lB
  refine ⟨_, rfl, p, rfl, ⟨_, sq_of hp⟩, fun Dl hD => ?_⟩
  have eD := Ex.new (o := .lst []) hD
  refine lc2_it (walk_list (xs := us)) (fun i G => ∃ ys M, G Dl = some (.lst ys) ∧ All2 (M.map IsLot) ys G ∧ Paired Both (prs (A.take i) B) M ∧ Ex H G) ?_ (fun i G _ ⟨_, _, _, _, _, e⟩ => sq_of (e _ _ hp)) ?_ ?_
  · exact ⟨[], [], upd_same, .nil, .nil, eD⟩
  · rintro i x G G' hi ⟨ys, M, hDl, al, pr, ex⟩ ⟨rfl, hx⟩
    obtain ⟨R, hR, rr⟩ := all2_get aA hx
    rw [List.getElem?_map] at hR
    obtain ⟨c, hc, rfl⟩ := Option.map_eq_some_iff.mp hR
    have cm := List.mem_of_getElem? hc
    refine ⟨rfl, ?_⟩
    refine ⟨_, rfl, q, rfl, ⟨_, sq_of (ex _ _ hq)⟩, ?_⟩
    refine in2_it (walk_list (xs := ws)) (fun j F => ∃ ys M, F Dl = some (.lst ys) ∧ All2 (M.map IsLot) ys F ∧ Paired Both (prs (A.take i) B ++ (B.take j).map (Prod.mk c)) M ∧ Ex H F) ?_ (fun j F _ ⟨_, _, _, _, _, e⟩ => sq_of (e _ _ hq)) ?_ ?_
    · exact ⟨ys, M, hDl, al, by simpa using pr, ex⟩
    · rintro j y F F' hj ⟨zs, N, hDz, al2, pr2, ey⟩ ⟨rfl, hy⟩
      obtain ⟨R, hR, r2⟩ := all2_get aB hy
      rw [List.getElem?_map] at hR
      obtain ⟨d, hd, rfl⟩ := Option.map_eq_some_iff.mp hR
      have dm := List.mem_of_getElem? hd
      have few := small c cm d dm
      have r1' := IsLot.monT _ _ _ (TupEx.of ey) rr
      have r2' := IsLot.monT _ _ _ (TupEx.of ey) r2
      refine ⟨rfl, ?_⟩
      refine (x_sset (K := K) (w := w) kindP (fun x _ y _ => pl_alike x y) (fun x _ => ⟨_, _, rfl⟩) (by rw [List.length_append]; exact few) (x_catT kindP (by omega) (x_imp (x_of (ev_var rfl)) fun v H' e ev => by rw [ev]; exact IsLot.monT _ _ _ (TupEx.of e) r1') (x_imp (x_of (ev_var rfl)) fun v H' e ev => by rw [ev]; exact IsLot.monT _ _ _ (TupEx.of e) r2'))) _ (Ex.refl _) _ fun v H2 e2 r3 => ?_
      obtain ⟨sp, su, cs, rfl, nsp, hsp, aS, nS, oS, mS, fS⟩ := r3
      refine ⟨sp, su, rfl, .inl ⟨sq_of hsp, fun l hl => ?_⟩⟩
      have e3 := Ex.new (o := .tup su) hl
      have e23 := e2.trans e3
      have ls := al2.len
      rw [List.length_map] at ls
      have lp := pr2.length
      rw [List.length_append, prs_len, List.length_map, List.length_take, List.length_take] at lp
      have z1 : min i A.length * B.length ≤ A.length * B.length := Nat.mul_le_mul_right _ (Nat.min_le_right _ _)
      have z2 : B.length ≤ 1000 := by
        have : 1 * B.length ≤ A.length * B.length := Nat.mul_le_mul_right _ (by omega)
        omega
      have hz := e23 _ _ hDz
      have t4 := TupEx.lst (ys := zs ++ [.ref l]) hz
      refine ⟨zs, hz, sz_lt (by omega), zs ++ [.ref l], N ++ [cs], upd_same, ?_, ?_, (ey.trans e23).mut hD⟩
      · rw [List.map_append]
        exact All2.app (All2.monT lots_monT ((TupEx.of e23).trans t4) al2) (.cons ⟨l, su, rfl, t4 _ _ upd_same, All2.monT pool_monT ((TupEx.of e3).trans t4) aS⟩ .nil)
      · rw [take_snoc hd, List.map_append, ← List.append_assoc]
        exact pr2.snoc ⟨⟨nS, oS⟩, fun z => (mS z).trans List.mem_append⟩
    · rintro F ⟨zs, N, hDz, al2, pr2, ey⟩
      refine ⟨zs, N, hDz, al2, ?_, ey⟩
      rw [← lB, List.take_length] at pr2
      rw [take_snoc hc, prs_snoc]
      exact pr2
  · rintro G ⟨ys, M, hDl, al, pr, ex⟩
    rw [← lA, List.take_length] at pr
    exact k Dl ys M G ex hD hDl al pr
end
end K10
set_option maxHeartbeats 4000000
/-! What the least lots are worth. -/
namespace K10
open PySem PySem.Spec PyProof.Rows L2 Evl LL
def nxt : List (Option Dm) → List (Option Dm)
  | [] => []
  | t :: rest => kidsO t ++ rest
def stepsD (o : Option Dm) : Nat → List (Option Dm)
  | 0 => [o]
  | n + 1 => nxt (stepsD o n)
theorem partsL_steps (o : Option Dm) : ∀ n, partsL (stepsD o n) = (partsO o).drop n
  | 0 => by simp [stepsD, partsL]
  | n + 1 => by
    have ih := partsL_steps o n
    show partsL (nxt (stepsD o n)) = _
    rw [← List.drop_drop (i := 1) (j := n), ← ih]
    cases stepsD o n with
    | nil => rfl
    | cons t rest => rw [partsL_cons]; rfl
theorem stepsD_at {o : Option Dm} {n : Nat} {t : Option Dm} (h : (partsO o)[n]? = some t) : ∃ rest, stepsD o n = t :: rest ∧ stepsD o (n + 1) = kidsO t ++ rest := by
  have e := partsL_steps o n
  cases hs : stepsD o n with
  | nil =>
    rw [hs] at e
    have e : ([] : List (Option Dm)) = (partsO o).drop n := e
    have := List.drop_eq_nil_iff.mp e.symm
    rw [List.getElem?_eq_none this] at h
    cases h
  | cons t' rest =>
    rw [hs, partsL_cons] at e
    have e2 := congrArg List.head? e
    rw [List.head?_drop, h] at e2
    cases e2
    exact ⟨rest, rfl, by show nxt (stepsD o n) = _; rw [hs]; rfl⟩
theorem stepsD_all (o : Option Dm) : stepsD o (partsO o).length = [] := by
  have e := partsL_steps o (partsO o).length
  rw [List.drop_length] at e
  cases hs : stepsD o (partsO o).length with
  | nil => rfl
  | cons t rest =>
    rw [hs, partsL_cons] at e
    cases e
/-! ### how many -/
theorem Dm.parts_bound : ∀ d : Dm, d.parts.length + 1 ≤ 2 ^ d.deep
  | .claim _ _ => by simp [Dm.parts, Dm.deep]
  | .both a b => by
    have h1 := Dm.parts_bound a
    have h2 := Dm.parts_bound b
    have g1 : 2 ^ a.deep ≤ 2 ^ max a.deep b.deep := Nat.pow_le_pow_right (by decide) (Nat.le_max_left _ _)
    have g2 : 2 ^ b.deep ≤ 2 ^ max a.deep b.deep := Nat.pow_le_pow_right (by decide) (Nat.le_max_right _ _)
    show (some (Dm.both a b) :: (a.parts ++ b.parts)).length + 1 ≤ 2 ^ (max a.deep b.deep + 1)
    rw [List.length_cons, List.length_append, Nat.pow_succ]
    omega
  | .either a b => by
    have h1 := Dm.parts_bound a
    have h2 := Dm.parts_bound b
    have g1 : 2 ^ a.deep ≤ 2 ^ max a.deep b.deep := Nat.pow_le_pow_right (by decide) (Nat.le_max_left _ _)
    have g2 : 2 ^ b.deep ≤ 2 ^ max a.deep b.deep := Nat.pow_le_pow_right (by decide) (Nat.le_max_right _ _)
    show (some (Dm.either a b) :: (a.parts ++ b.parts)).length + 1 ≤ 2 ^ (max a.deep b.deep + 1)
    rw [List.length_cons, List.length_append, Nat.pow_succ]
    omega
theorem Dm.cl_bound : ∀ d : Dm, 2 * d.cl.length ≤ 2 ^ d.deep
  | .claim _ _ => by simp [Dm.cl, Dm.deep]
  | .both a b => by
    have h1 := Dm.cl_bound a
    have h2 := Dm.cl_bound b
    have g1 : 2 ^ a.deep ≤ 2 ^ max a.deep b.deep := Nat.pow_le_pow_right (by decide) (Nat.le_max_left _ _)
    have g2 : 2 ^ b.deep ≤ 2 ^ max a.deep b.deep := Nat.pow_le_pow_right (by decide) (Nat.le_max_right _ _)
    show 2 * (a.cl ++ b.cl).length ≤ 2 ^ (max a.deep b.deep + 1)
    rw [List.length_append, Nat.pow_succ]
    omega
  | .either a b => by
    have h1 := Dm.cl_bound a
    have h2 := Dm.cl_bound b
    have g1 : 2 ^ a.deep ≤ 2 ^ max a.deep b.deep := Nat.pow_le_pow_right (by decide) (Nat.le_max_left _ _)
    have g2 : 2 ^ b.deep ≤ 2 ^ max a.deep b.deep := Nat.pow_le_pow_right (by decide) (Nat.le_max_right _ _)
    show 2 * (a.cl ++ b.cl).length ≤ 2 ^ (max a.deep b.deep + 1)
    rw [List.length_append, Nat.pow_succ]
    omega
theorem cl8 : ∀ {o : Option Dm}, deepO o ≤ 4 → (clO o).length ≤ 8
  | none, _ => Nat.zero_le _
  | some d, h => by
    have h : d.deep ≤ 4 := h
    have g : 2 ^ d.deep ≤ 2 ^ 4 := Nat.pow_le_pow_right (by decide) h
    have := d.cl_bound
    show d.cl.length ≤ 8
    omega
theorem parts16 : ∀ {o : Option Dm}, deepO o ≤ 4 → (partsO o).length ≤ 16
  | none, _ => by show 1 ≤ 16; decide
  | some d, h => by
    have h : d.deep ≤ 4 := h
    have g : 2 ^ d.deep ≤ 2 ^ 4 := Nat.pow_le_pow_right (by decide) h
    have := d.parts_bound
    show d.parts.length ≤ 16
    omega
theorem Dm.part_in : ∀ (d : Dm) (t : Option Dm), t ∈ d.parts → ∃ e, t = some e ∧ e.deep ≤ d.deep ∧ ∀ z ∈ e.cl, z ∈ d.cl
  | .claim nm n, t, h => ⟨_, List.mem_singleton.mp h, Nat.le_refl _, fun _ h => h⟩
  | .both a b, t, h => by
    rcases List.mem_cons.mp h with e | h
    · exact ⟨_, e, Nat.le_refl _, fun _ h => h⟩
    rcases List.mem_append.mp h with h | h
    · obtain ⟨e, h1, h2, h3⟩ := a.part_in t h
      exact ⟨e, h1, by show e.deep ≤ max a.deep b.deep + 1; omega, fun z hz => List.mem_append_left _ (h3 z hz)⟩
    · obtain ⟨e, h1, h2, h3⟩ := b.part_in t h
      exact ⟨e, h1, by show e.deep ≤ max a.deep b.deep + 1; omega, fun z hz => List.mem_append_right _ (h3 z hz)⟩
  | .either a b, t, h => by
    rcases List.mem_cons.mp h with e | h
    · exact ⟨_, e, Nat.le_refl _, fun _ h => h⟩
    rcases List.mem_append.mp h with h | h
    · obtain ⟨e, h1, h2, h3⟩ := a.part_in t h
      exact ⟨e, h1, by show e.deep ≤ max a.deep b.deep + 1; omega, fun z hz => List.mem_append_left _ (h3 z hz)⟩
    · obtain ⟨e, h1, h2, h3⟩ := b.part_in t h
      exact ⟨e, h1, by show e.deep ≤ max a.deep b.deep + 1; omega, fun z hz => List.mem_append_right _ (h3 z hz)⟩
theorem part_in : ∀ (o t : Option Dm), t ∈ partsO o → deepO t ≤ deepO o ∧ ∀ z ∈ clO t, z ∈ clO o
  | none, t, h => by
    rw [List.mem_singleton.mp h]
    exact ⟨Nat.le_refl _, fun _ h => h⟩
  | some d, t, h => by
    obtain ⟨e, rfl, h2, h3⟩ := d.part_in t h
    exact ⟨h2, h3⟩
/-! ### right lots -/
theorem Dm.sat_none : ∀ d : Dm, ¬ d.Sat fun _ => False
  | .claim _ _ => fun h => h
  | .both a _ => fun h => a.sat_none h.1
  | .either a b => fun h => h.elim a.sat_none b.sat_none
theorem Gd.ne {L : List Lot} {d : Dm} (h : Gd L (some d)) : ∀ a ∈ L, a ≠ [] := fun a ha e => by
  subst e
  exact d.sat_none ((h.sat fun _ => False).mpr ⟨[], ha, fun _ h => nomatch h⟩)
theorem Gd.few {L : List Lot} {o : Option Dm} (h : Gd L o) : ∀ a ∈ L, a.length ≤ (clO o).length := fun a ha => nodup_leD a _ (h.cl a ha).nd (h.in_ a ha)
theorem Gd.none_ : Gd [[]] none := ⟨fun a ha => (by rw [List.mem_singleton.mp ha]; exact ⟨List.nodup_nil, List.Pairwise.nil⟩), fun a ha z hz => (by rw [List.mem_singleton.mp ha] at hz; cases hz), ⟨by simp, by simp⟩, fun a ha b hb _ => by rw [List.mem_singleton.mp ha, List.mem_singleton.mp hb], fun S => by simp [SatO], by decide⟩
theorem Gd.claim {nm : Str} {n : Int} : Gd [[(nm, n)]] (some (.claim nm n)) := ⟨fun a ha => by rw [List.mem_singleton.mp ha]; exact ⟨by simp, by simp⟩, fun a ha z hz => by rw [List.mem_singleton.mp ha] at hz; exact hz, ⟨by simp, by simp⟩, fun a ha b hb _ => by rw [List.mem_singleton.mp ha, List.mem_singleton.mp hb], fun S => by simp [SatO, Dm.Sat], by show 1 ≤ wd 0; decide⟩
/-- the least of lots that are right but for that -/
theorem Gd.least {U L : List Lot} {o : Option Dm} (cl : ∀ a ∈ U, ClOk a) (in_ : ∀ a ∈ U, ∀ z ∈ a, z ∈ clO o) (sat : ∀ S, SatO S o ↔ ∃ a ∈ U, ∀ z ∈ a, S z) (len : U.length ≤ wd (deepO o - 1))
    (ok : LsOk L) (sub : ∀ a ∈ L, a ∈ U) (mini : ∀ a ∈ L, ∀ b ∈ U, (∀ z ∈ b, z ∈ a) → b = a) (cov : ∀ a ∈ U, ∃ b ∈ L, ∀ z ∈ b, z ∈ a) : Gd L o :=
  ⟨fun a ha => cl a (sub a ha), fun a ha => in_ a (sub a ha), ok, fun a ha b hb => mini a ha b (sub b hb), fun S => by
    rw [sat S]
    constructor
    · rintro ⟨a, ha, h⟩
      obtain ⟨b, hb, h2⟩ := cov a ha
      exact ⟨b, hb, fun z hz => h z (h2 z hz)⟩
    · rintro ⟨a, ha, h⟩
      exact ⟨a, sub a ha, h⟩, Nat.le_trans (nodup_leD L U ok.nd sub) len⟩
theorem paired_mem {α β : Type} {F : α → β → Prop} : ∀ {l : List α} {m : List β}, Paired F l m → (∀ y ∈ m, ∃ x ∈ l, F x y) ∧ ∀ x ∈ l, ∃ y ∈ m, F x y
  | _, _, .nil => ⟨(fun _ h => nomatch h), fun _ h => nomatch h⟩
  | _, _, .cons h hs => by
    obtain ⟨h1, h2⟩ := paired_mem hs
    refine ⟨fun y hy => ?_, fun x hx => ?_⟩
    · rcases List.mem_cons.mp hy with e | hy
      · exact ⟨_, List.mem_cons_self, by rw [e]; exact h⟩
      · obtain ⟨x, hx, f⟩ := h1 y hy
        exact ⟨x, List.mem_cons_of_mem _ hx, f⟩
    · rcases List.mem_cons.mp hx with e | hx
      · exact ⟨_, List.mem_cons_self, by rw [e]; exact h⟩
      · obtain ⟨y, hy, f⟩ := h2 x hx
        exact ⟨y, List.mem_cons_of_mem _ hy, f⟩
theorem wd_both {x y : Dm} {m n : Nat} (h1 : m ≤ wd (x.deep - 1)) (h2 : n ≤ wd (y.deep - 1)) : m * n ≤ wd (max x.deep y.deep) ∧ m + n ≤ wd (max x.deep y.deep) := by
  have px : 1 ≤ x.deep := by cases x <;> simp [Dm.deep]
  obtain ⟨k, hk⟩ : ∃ k, max x.deep y.deep = k + 1 := ⟨max x.deep y.deep - 1, by omega⟩
  have g1 : m ≤ wd k := Nat.le_trans h1 (wd_mono (by omega))
  have g2 : n ≤ wd k := Nat.le_trans h2 (wd_mono (by omega))
  have g3 : m * n ≤ wd k * wd k := Nat.mul_le_mul g1 g2
  rw [hk]
  simp only [wd]
  omega
/-- what both ask -/
theorem Gd.join {x y : Dm} {A B U : List Lot} (hA : Gd A (some x)) (hB : Gd B (some y)) (pr : Paired Both (prs A B) U) : (∀ a ∈ U, ClOk a) ∧ (∀ a ∈ U, ∀ z ∈ a, z ∈ clO (some (.both x y))) ∧ (∀ S, SatO S (some (.both x y)) ↔ ∃ a ∈ U, ∀ z ∈ a, S z) ∧ U.length ≤ wd (max x.deep y.deep) ∧ (∀ a ∈ U, a ≠ []) := by
  obtain ⟨h1, h2⟩ := paired_mem pr
  have of_ : ∀ a ∈ U, ∃ b ∈ A, ∃ c ∈ B, ClOk a ∧ ∀ z, z ∈ a ↔ z ∈ b ∨ z ∈ c := fun a ha => by
    obtain ⟨p, hp, f1, f2⟩ := h1 a ha
    exact ⟨p.1, (prs_mem.mp hp).1, p.2, (prs_mem.mp hp).2, f1, f2⟩
  refine ⟨fun a ha => ?_, fun a ha z hz => ?_, fun S => ?_, ?_, fun a ha e => ?_⟩
  · obtain ⟨_, _, _, _, f, _⟩ := of_ a ha
    exact f
  · obtain ⟨b, hb, c, hc, _, f⟩ := of_ a ha
    rcases (f z).mp hz with k | k
    · exact List.mem_append_left _ (hA.in_ b hb z k)
    · exact List.mem_append_right _ (hB.in_ c hc z k)
  · show (x.Sat S ∧ y.Sat S) ↔ _
    have sA : x.Sat S ↔ _ := hA.sat S
    have sB : y.Sat S ↔ _ := hB.sat S
    rw [sA, sB]
    constructor
    · rintro ⟨⟨a, ha, f⟩, b, hb, g⟩
      obtain ⟨u, hu, _, i⟩ := h2 (a, b) (prs_mem.mpr ⟨ha, hb⟩)
      exact ⟨u, hu, fun z hz => ((i z).mp hz).elim (f z) (g z)⟩
    · rintro ⟨u, hu, f⟩
      obtain ⟨a, ha, b, hb, _, i⟩ := of_ u hu
      exact ⟨⟨a, ha, fun z hz => f z ((i z).mpr (.inl hz))⟩, b, hb, fun z hz => f z ((i z).mpr (.inr hz))⟩
  · rw [← pr.length, prs_len]
    exact (wd_both hA.len hB.len).1
  · obtain ⟨b, hb, c, hc, _, f⟩ := of_ a ha
    cases b with
    | nil => exact hA.ne [] hb rfl
    | cons z b =>
      have := (f z).mpr (.inl List.mem_cons_self)
      rw [e] at this
      cases this
/-- what either asks -/
theorem Gd.one {x y : Dm} {A B : List Lot} (hA : Gd A (some x)) (hB : Gd B (some y)) : (∀ a ∈ A ++ B, ClOk a) ∧ (∀ a ∈ A ++ B, ∀ z ∈ a, z ∈ clO (some (.either x y))) ∧ (∀ S, SatO S (some (.either x y)) ↔ ∃ a ∈ A ++ B, ∀ z ∈ a, S z) ∧ (A ++ B).length ≤ wd (max x.deep y.deep) ∧ (∀ a ∈ A ++ B, a ≠ []) := by
  refine ⟨fun a ha => (List.mem_append.mp ha).elim (hA.cl a) (hB.cl a), fun a ha z hz => ?_, fun S => ?_, ?_, fun a ha => (List.mem_append.mp ha).elim (hA.ne a) (hB.ne a)⟩
  · rcases List.mem_append.mp ha with k | k
    · exact List.mem_append_left _ (hA.in_ a k z hz)
    · exact List.mem_append_right _ (hB.in_ a k z hz)
  · show (x.Sat S ∨ y.Sat S) ↔ _
    have sA : x.Sat S ↔ _ := hA.sat S
    have sB : y.Sat S ↔ _ := hB.sat S
    rw [sA, sB]
    constructor
    · rintro (⟨a, ha, f⟩ | ⟨a, ha, f⟩)
      · exact ⟨a, List.mem_append_left _ ha, f⟩
      · exact ⟨a, List.mem_append_right _ ha, f⟩
    · rintro ⟨a, ha, f⟩
      rcases List.mem_append.mp ha with k | k
      · exact .inl ⟨a, k, f⟩
      · exact .inr ⟨a, k, f⟩
  · rw [List.length_append]
    exact (wd_both hA.len hB.len).2
end K10
set_option maxHeartbeats 4000000
/-! The program's own: neat. -/
namespace K10
open PySem PySem.Spec PyProof.Rows L2 Evl LL
/-- a list of lots, apart from one address -/
def IsLs (dn : Addr) (L : List Lot) : VP := fun v H => ∃ r us, v = .ref r ∧ r ≠ dn ∧ H r = some (.lst us) ∧ All2 (L.map IsLot) us H
theorem IsLs.ex {dn : Addr} {H H' : Hp} (e : Ex H H') : ∀ {Ls : List (List Lot)} {vs : List V}, All2 (Ls.map (IsLs dn)) vs H → All2 (Ls.map (IsLs dn)) vs H'
  | [], _, .nil => .nil
  | L :: Ls, _, .cons ⟨r, us, h1, h2, h3, h4⟩ hs => .cons ⟨r, us, h1, h2, e _ _ h3, All2.monT lots_monT (TupEx.of e) h4⟩ (IsLs.ex e hs)
theorem IsLs.upd {dn : Addr} {H : Hp} {xs ys : List V} (h : H dn = some (.lst xs)) : ∀ {Ls : List (List Lot)} {vs : List V}, All2 (Ls.map (IsLs dn)) vs H → All2 (Ls.map (IsLs dn)) vs (L2.upd H dn (.lst ys))
  | [], _, .nil => .nil
  | L :: Ls, _, .cons ⟨r, us, h1, h2, h3, h4⟩ hs => .cons ⟨r, us, h1, h2, by rw [upd_ne h2]; exact h3, All2.monT lots_monT (TupEx.lst h) h4⟩ (IsLs.upd h hs)
abbrev Gds (os : List (Option Dm)) (Ls : List (List Lot)) : Prop := Paired (fun o L => Gd L o) os Ls
def spNeat : Sp := fun vs H Q _ => ∃ (v : V) (o : Option Dm), vs = [v] ∧ IsDO o v H ∧ deepO o ≤ 4 ∧ Wo (clO o) ∧ ∀ p us L H', Ex H H' → H' p = some (.tup us) → All2 (L.map IsLot) us H' → Gd L o → Q (.ref p) H'
structure Fne (P : Program) (w : World) (K : PySem.W.Frag) (mg : Str → Option Value) (base : Heap) : Prop where
  tuple : mg "tuple" = none
  hdemand_parts : Has P w K mg base CX0 "demand_parts" 1 ["demand"] spParts
  hjoined : Has P w K mg base CX0 "joined" 1 ["lots", "others"] spJoin
  hleast_lots : Has P w K mg base CX0 "least_lots" 2 ["lots"] spLeast
section
variable {P : Program} {w : World} {K : PySem.W.Frag} {mg : Str → Option Value} {base : Heap} {f : Addr} {fd : FuncData}
theorem scNeat : FnScope ["demand", "done", "part", "one", "other"] ["demand"] (defScope (top 1)) := ⟨rfl, rfl, rfl, by decide +kernel, rfl, by decide +kernel, by decide +kernel⟩
theorem ok_neat (F : FnT K "neat" (top 1) f fd) (T : Fne P w K mg base) : FnOk P w K mg base CX0 3 f fd ["demand"] spNeat := by
  have sc := scNeat
  refine F.ok scNeat (fun vs H Q E h => ?_) (fun cdv A outer s H vs Q E hr h => ?_)
  · obtain ⟨_, _, rfl, _⟩ := h
    rfl
  refine ⟨_, PSs.nox (pss_cons (ps_set (i := 1) sc.nd rfl (Or.inl rfl) (pe_lst pa_nil))
      (pss_cons (ps_for PassesOwn.never rfl (pi_list (pe_revL (pe_callH T.hdemand_parts hr pass0 (pa_cons (pv 0) pa_nil)))) (pg_name (i := 2) sc.nd rfl (Or.inl rfl)) (pss_one (ps_if (pt_cmpR op_isN (pv 2) pe_non (nomark _)) (pss_one (ps_expr (pe_bm PySem.F.plainAttrs_list PySem.F.slot_list_append PySem.F.type_list_append mt_append (pv 1) (pa_cons (pe_lst (pa_cons (pe_tup pa_nil) pa_nil)) pa_nil)))) (pss_one (ps_if (pt_cmpR op_eq (pe_ix ix_tup (pv 2) pe_int (fun _ _ => rfl)) pe_str (nomark _)) (pss_one (ps_expr (pe_bm PySem.F.plainAttrs_list PySem.F.slot_list_append PySem.F.type_list_append mt_append (pv 1) (pa_cons (pe_lst (pa_cons (pe_tup (pa_cons (pe_slice sl_tup (pv 2) (po_some pe_int) po_none) pa_nil)) pa_nil)) pa_nil)))) (pss_cons (ps_par (i := 3) (j := 4) (by rfl) sc.nd rfl rfl (by decide) rfl rfl (pa_cons (pe_bm0 PySem.F.plainAttrs_list PySem.F.slot_list_pop PySem.F.type_list_pop mt_pop (pv 1)) (pa_cons (pe_bm0 PySem.F.plainAttrs_list PySem.F.slot_list_pop PySem.F.type_list_pop mt_pop (pv 1)) pa_nil)) (by rfl))
      (pss_one (ps_expr (pe_bm PySem.F.plainAttrs_list PySem.F.slot_list_append PySem.F.type_list_append mt_append (pv 1) (pa_cons (pe_callH T.hleast_lots hr pass0 (pa_cons (pe_ifExp (pt_cmpR op_eq (pe_ix ix_tup (pv 2) pe_int (fun _ _ => rfl)) pe_str (nomark _)) (pe_callH T.hjoined hr pass0 (pa_cons (pv 3) (pa_cons (pv 4) pa_nil))) (pe_op op_cat (pv 3) (pv 4))) pa_nil)) pa_nil))))))))))
      (pss_one (ps_ret (pe_callTy call_tuple_of (by rfl) T.tuple (by decide +kernel) (pa_cons (pe_ix ix_list (pv 1) pe_int (fun _ _ => rfl)) pa_nil)))))), ?_⟩
  obtain ⟨v0, o, rfl, hv0, deep4, wo, k⟩ := h
  have hz := parts16 deep4
  refine q_asgL (el_lst ea_nil (by decide)) fun dn H1 hdn e1 h1 => ?_
  refine ⟨_, rfl, v0, o, rfl, IsDO.monT _ _ _ (TupEx.of e1) hv0, by omega, fun pw ws H2 e2 npw hpw aws => ⟨pw, ws, rfl, sq_of hpw, fun pr hpr => ⟨pr, rfl, ⟨_, sq_of upd_same⟩, ?_⟩⟩⟩
  have lw := aws.len
  rw [List.length_map] at lw
  have e3 := Ex.new (o := .lst ws.reverse) hpr
  have hpr3 : L2.upd H2 pr (.lst ws.reverse) pr = some (.lst ws.reverse) := upd_same
  have hdn3 := e3 _ _ (e2 _ _ h1)
  have e03 := (e1.trans e2).trans e3
  have pd : pr ≠ dn := fun z => by rw [z, e2 _ _ h1] at hpr; cases hpr
  have aws3 := All2.monT dos_monT (TupEx.of e3) aws
  revert hpr3 hdn3 e03 aws3
  generalize L2.upd H2 pr (.lst ws.reverse) = H3
  intro hpr3 hdn3 e03 aws3
  obtain ⟨n, hn⟩ : ∃ n, n = (partsO o).length := ⟨_, rfl⟩
  refine for_it (walk_list (xs := ws.reverse)) (fun i σ' H' => ∃ (vs : List V) (Ls : List (List Lot)) (x2 x3 x4 : Option V), σ' = [some v0, some (.ref dn), x2, x3, x4] ∧ H' dn = some (.lst vs.reverse) ∧ All2 (Ls.map (IsLs dn)) vs H' ∧ Gds (stepsD o (n - i)) Ls ∧ Ex H H' ∧ TupEx H3 H' ∧ H' pr = some (.lst ws.reverse)) ?_ ?_ ?_ ?_
  · refine ⟨[], [], _, _, _, rfl, hdn3, .nil, ?_, e03, fun _ _ h => h, hpr3⟩
    rw [Nat.sub_zero, hn, stepsD_all]
    exact .nil
  · rintro i σ' H' hi ⟨vs, Ls, x2, x3, x4, rfl, _, _, _, _, _, hp⟩
    exact sq_of hp
  · rintro i x σ' H' H'' hi ⟨vs, Ls, x2, x3, x4, rfl, hd, al, gd, ex, tx, hp⟩ ⟨rfl, hx⟩
    rw [List.length_reverse] at hi
    obtain ⟨j, hj⟩ : ∃ j, j = n - (i + 1) := ⟨_, rfl⟩
    have hj1 : n - i = j + 1 := by omega
    have hjl : j < (partsO o).length := by omega
    obtain ⟨t, ht⟩ : ∃ t, (partsO o)[j]? = some t := ⟨_, List.getElem?_eq_getElem hjl⟩
    obtain ⟨rest, st1, st2⟩ := stepsD_at ht
    obtain ⟨td, tc⟩ := part_in o t (List.mem_of_getElem? ht)
    rw [hj1, st2] at gd
    have tv : IsDO t x H'' := by
      rw [List.getElem?_reverse (by omega), show ws.length - 1 - i = j by omega] at hx
      obtain ⟨R, hR, r⟩ := all2_get aws3 hx
      rw [List.getElem?_map, ht] at hR
      cases hR
      exact IsDO.monT _ _ _ tx r
    rw [← hj, st1]
    have lb := gd.length
    have lv := al.len
    rw [List.length_map] at lv
    have bl : vs.length ≤ 16 := by
      have := partsL_len (stepsD o (j + 1))
      rw [st2] at this
      have e := congrArg List.length (partsL_steps o (j + 1))
      rw [st2, List.length_drop] at e
      omega
    have fin : ∀ (L : List Lot) (r : Addr) (ls : List V) (vs' : List V) (Ls' : List (List Lot)) (G : Hp) (y2 y3 y4 : Option V), Ex H G → TupEx H3 G → G pr = some (.lst ws.reverse) → G dn = some (.lst vs'.reverse) → r ≠ dn → G r = some (.lst ls) → All2 (L.map IsLot) ls G → Gd L t → All2 (Ls'.map (IsLs dn)) vs' G → Gds rest Ls' →
        ∃ (vs : List V) (Ls : List (List Lot)) (x2 x3 x4 : Option V), ([some v0, some (.ref dn), y2, y3, y4] : L2.St) = [some v0, some (.ref dn), x2, x3, x4] ∧ L2.upd G dn (.lst (vs'.reverse ++ [.ref r])) dn = some (.lst vs.reverse) ∧ All2 (Ls.map (IsLs dn)) vs (L2.upd G dn (.lst (vs'.reverse ++ [.ref r]))) ∧ Gds (t :: rest) Ls ∧ Ex H (L2.upd G dn (.lst (vs'.reverse ++ [.ref r]))) ∧ TupEx H3 (L2.upd G dn (.lst (vs'.reverse ++ [.ref r]))) ∧ L2.upd G dn (.lst (vs'.reverse ++ [.ref r])) pr = some (.lst ws.reverse) := fun L r ls vs' Ls' G y2 y3 y4 a1 a2 a3 a4 a5 a6 a7 a8 a9 a10 =>
      ⟨.ref r :: vs', L :: Ls', _, _, _, rfl, by rw [upd_same, List.reverse_cons], .cons ⟨r, ls, rfl, a5, by rw [upd_ne a5]; exact a6, All2.monT lots_monT (TupEx.lst a4) a7⟩ (IsLs.upd a4 a9), .cons a8 a10, a1.mut hdn, a2.trans (TupEx.lst a4), by rw [upd_ne pd]; exact a3⟩
    have sz : vs.reverse.length < sizeLine := by rw [List.length_reverse]; exact sz_lt (by omega)
    cases t with
    | none =>
      have tv6 : x = .non := tv
      subst tv6
      refine s_if (b := true) (et_is (et_test (ev_op (ev_var rfl) ev_c (fun H1 _ Q q => ⟨rfl, q H1 (Ex.refl H1)⟩))) (by simp)) (fun _ G e => ?_) (fun z => nomatch z)
      refine ⟨_, rfl, .inl ⟨rfl, _, sq_of (e _ _ hd)⟩, by show 0 ≤ sizeLine; decide, fun tp htp => ⟨by show 1 ≤ sizeLine; decide, fun r hr => ?_⟩⟩
      have e5 := Ex.new (o := .tup []) htp
      have e6 := Ex.new (o := .lst [.ref tp]) hr
      have e56 := (e.trans e5).trans e6
      refine ⟨dn, _, .ref r, rfl, rfl, e56 _ _ hd, sz, fin [[]] r _ vs Ls _ _ _ _ (ex.trans e56) (tx.trans (TupEx.of e56)) (e56 _ _ hp) (e56 _ _ hd) (fun z => ?_) upd_same (.cons ⟨tp, [], rfl, e6 _ _ upd_same, .nil⟩ .nil) Gd.none_ (IsLs.ex e56 al) gd⟩
      rw [z, (e.trans e5) _ _ hd] at hr
      cases hr
    | some d =>
      have tv6 : Dv H'' x d := tv
      have notnone : ∀ {a : Addr} {σ : L2.St}, σ[2]? = some (some (.ref a)) → EvT (tTest (tOp (fun x y H Q => y = .non ∧ Q (.bl (decide (x = .non))) H) (tVar 2) (tC .non))) σ H'' false := fun h => et_is (et_test (ev_op (ev_var h) ev_c (fun H1 _ Q q => ⟨rfl, q H1 (Ex.refl H1)⟩))) (by simp)
      cases tv6 with
      | @claim a nm n0 h =>
        refine s_if (b := false) (notnone rfl) (fun z => nomatch z) (fun _ G e => ?_)
        refine s_if (b := true) (et_is (et_test (ev_op (ev_op (ev_var rfl) ev_c (rv_ixT (st_of (e _ _ h)) (atI_nat (j := 0) rfl))) ev_c (rv_eq rfl))) (by simp)) (fun _ G1 e1' => ?_) (fun z => nomatch z)
        have eg := e.trans e1'
        refine ⟨_, rfl, .inl ⟨rfl, _, sq_of (eg _ _ hd)⟩, _, rfl, 1, rfl, a, .str "claim" :: [.str nm, .int n0], rfl, st_of (eg _ _ h), cut1_no _ _, fun tp htp => ⟨by show 1 ≤ sizeLine; decide, fun tq htq => ⟨by show 1 ≤ sizeLine; decide, fun r hr => ?_⟩⟩⟩
        rw [cut1] at htq hr ⊢
        have e4 := Ex.new (o := .tup [.str nm, .int n0]) htp
        have e5 := Ex.new (o := .tup [.ref tp]) htq
        have e6 := Ex.new (o := .lst [.ref tq]) hr
        have e56 := ((eg.trans e4).trans e5).trans e6
        refine ⟨dn, _, .ref r, rfl, rfl, e56 _ _ hd, sz, fin [[(nm, n0)]] r _ vs Ls _ _ _ _ (ex.trans e56) (tx.trans (TupEx.of e56)) (e56 _ _ hp) (e56 _ _ hd) (fun z => ?_) upd_same (.cons ⟨tq, _, rfl, e6 _ _ upd_same, .cons ⟨tp, rfl, (e5.trans e6) _ _ upd_same⟩ .nil⟩ .nil) Gd.claim (IsLs.ex e56 al) gd⟩
        rw [z, ((eg.trans e4).trans e5) _ _ hd] at hr
        cases hr
      | @both a u1 u2 dx dy h _ _ =>
        refine s_if (b := false) (notnone rfl) (fun z => nomatch z) (fun _ G e => ?_)
        refine s_if (b := false) (et_is (et_test (ev_op (ev_op (ev_var rfl) ev_c (rv_ixT (st_of (e _ _ h)) (atI_nat (j := 0) rfl))) ev_c (rv_eq rfl))) (by decide)) (fun z => nomatch z) (fun _ G1 e1' => ?_)
        have eg := e.trans e1'
        have gd0 : Gds ([some dx, some dy] ++ rest) Ls := gd
        obtain ⟨L1, L2', Ls', rfl, g1, g2, gd1⟩ : ∃ L1 L2 Ls', Ls = L1 :: L2 :: Ls' ∧ Gd L1 (some dx) ∧ Gd L2 (some dy) ∧ Gds rest Ls' := by
          cases gd0 with
          | cons c1 r1 =>
            cases r1 with
            | cons c2 r2 => exact ⟨_, _, _, rfl, c1, c2, r2⟩
        have alg := IsLs.ex eg al
        obtain ⟨p1, us1, p2, us2, vs', rfl, n1, n2, hp1, hp2, a1, a2, al'⟩ : ∃ p1 us1 p2 us2 vs', vs = .ref p1 :: .ref p2 :: vs' ∧ p1 ≠ dn ∧ p2 ≠ dn ∧ G1 p1 = some (.lst us1) ∧ G1 p2 = some (.lst us2) ∧ All2 (L1.map IsLot) us1 G1 ∧ All2 (L2'.map IsLot) us2 G1 ∧ All2 (Ls'.map (IsLs dn)) vs' G1 := by
          cases alg with
          | cons c1 r1 =>
            cases r1 with
            | cons c2 r2 =>
              obtain ⟨p1, us1, rfl, n1, h1, a1⟩ := c1
              obtain ⟨p2, us2, rfl, n2, h2, a2⟩ := c2
              exact ⟨p1, us1, p2, us2, _, rfl, n1, n2, h1, h2, a1, a2, r2⟩
        have e12 : (V.ref p1 :: .ref p2 :: vs').reverse = vs'.reverse ++ [.ref p2] ++ [.ref p1] := by simp
        have hdg := eg _ _ hd
        rw [e12] at hdg
        refine ⟨_, rfl, .inl ⟨rfl, _, sq_of hdg⟩, dn, _, .ref p1, rfl, rfl, hdg, snoc_last _ _, ?_⟩
        rw [List.dropLast_concat]
        refine ⟨_, rfl, .inl ⟨rfl, _, sq_of upd_same⟩, dn, _, .ref p2, rfl, rfl, upd_same, snoc_last _ _, _, _, rfl, ?_⟩
        rw [List.dropLast_concat]
        have t4' : TupEx G1 (L2.upd (L2.upd G1 dn (.lst (vs'.reverse ++ [.ref p2]))) dn (.lst vs'.reverse)) := (TupEx.lst hdg).trans (TupEx.lst upd_same)
        have ha4 := t4' _ _ (eg _ _ h)
        have x4 : Ex H (L2.upd (L2.upd G1 dn (.lst (vs'.reverse ++ [.ref p2]))) dn (.lst vs'.reverse)) := ((ex.trans eg).mut hdn).mut hdn
        have t4 := (tx.trans (TupEx.of eg)).trans t4'
        have p4 : L2.upd (L2.upd G1 dn (.lst (vs'.reverse ++ [.ref p2]))) dn (.lst vs'.reverse) pr = some (.lst ws.reverse) := by rw [upd_ne pd, upd_ne pd]; exact eg _ _ hp
        have d4 : L2.upd (L2.upd G1 dn (.lst (vs'.reverse ++ [.ref p2]))) dn (.lst vs'.reverse) dn = some (.lst vs'.reverse) := upd_same
        have q1 : L2.upd (L2.upd G1 dn (.lst (vs'.reverse ++ [.ref p2]))) dn (.lst vs'.reverse) p1 = some (.lst us1) := by rw [upd_ne n1, upd_ne n1]; exact hp1
        have q2 : L2.upd (L2.upd G1 dn (.lst (vs'.reverse ++ [.ref p2]))) dn (.lst vs'.reverse) p2 = some (.lst us2) := by rw [upd_ne n2, upd_ne n2]; exact hp2
        have a1 := All2.monT lots_monT t4' a1
        have a2 := All2.monT lots_monT t4' a2
        have al4 := IsLs.upd (ys := vs'.reverse) upd_same (IsLs.upd (ys := vs'.reverse ++ [.ref p2]) hdg al')
        revert ha4 x4 t4 p4 d4 q1 q2 a1 a2 al4
        generalize L2.upd (L2.upd G1 dn (.lst (vs'.reverse ++ [.ref p2]))) dn (.lst vs'.reverse) = G4
        intro ha4 x4 t4 p4 d4 q1 q2 a1 a2 al4
        dsimp only
        have td : max dx.deep dy.deep + 1 ≤ 4 := Nat.le_trans td deep4
        have c8 : (clO (some (Dm.both dx dy))).length ≤ 8 := cl8 td
        have c1 := g1.few
        have c2 := g2.few
        have c8 : dx.cl.length + dy.cl.length ≤ 8 := by
          have : (dx.cl ++ dy.cl).length ≤ 8 := c8
          rwa [List.length_append] at this
        have w3 : wd (max dx.deep dy.deep) ≤ 16 := Nat.le_trans (wd_mono (n := 3) (by omega)) (by decide)
        have wdb := wd_both g1.len g2.len
        refine ⟨_, rfl, .inl ⟨rfl, _, sq_of d4⟩, if_at (b := true) (et_is (et_test (ev_op (ev_op (ev_var rfl) ev_c (rv_ixT (st_of ha4) (atI_nat (j := 0) rfl))) ev_c (rv_eq rfl))) (by decide)) (fun _ G5 e5 => ?_) (fun z => nomatch z)⟩
        obtain ⟨-, -⟩ := wdb
        refine ⟨_, rfl, _, rfl, p1, p2, us1, us2, L1, L2', rfl, e5 _ _ q1, e5 _ _ q2, All2.monT lots_monT (TupEx.of e5) a1, All2.monT lots_monT (TupEx.of e5) a2, by have := (wd_both g1.len g2.len).1; omega, fun b hb c hc => by have h1 : b.length ≤ dx.cl.length := c1 b hb; have h2 : c.length ≤ dy.cl.length := c2 c hc; omega, fun l xs M G6 e6 nl hl aM pr_ => ?_⟩
        obtain ⟨j1, j2, j3, j4, j5⟩ := Gd.join g1 g2 pr_
        refine ⟨l, xs, M, rfl, hl, aM, by omega, fun b hb => ⟨j1 b hb, fun z hz => wo z (tc z (j2 b hb z hz)), j5 b hb, ?_⟩, fun r ls L G7 e7 nr hr aL okL subL minL covL => ?_⟩
        · have := nodup_leD b _ (j1 b hb).nd (j2 b hb)
          have e : (clO (some (Dm.both dx dy))).length = dx.cl.length + dy.cl.length := List.length_append
          omega
        have e57 := (e5.trans e6).trans e7
        refine ⟨dn, _, .ref r, rfl, rfl, e57 _ _ d4, by rw [List.length_reverse]; simp only [List.length_cons] at bl; exact sz_lt (by omega), fin L r ls vs' Ls' G7 _ _ _ (x4.trans e57) (t4.trans (TupEx.of e57)) (e57 _ _ p4) (e57 _ _ d4) (fun z => ?_) hr aL (Gd.least j1 j2 j3 j4 okL subL minL covL) (IsLs.ex e57 al4) gd1⟩
        rw [z, (e5.trans e6) _ _ d4] at nr
        cases nr
      | @either a u1 u2 dx dy h _ _ =>
        refine s_if (b := false) (notnone rfl) (fun z => nomatch z) (fun _ G e => ?_)
        refine s_if (b := false) (et_is (et_test (ev_op (ev_op (ev_var rfl) ev_c (rv_ixT (st_of (e _ _ h)) (atI_nat (j := 0) rfl))) ev_c (rv_eq rfl))) (by decide)) (fun z => nomatch z) (fun _ G1 e1' => ?_)
        have eg := e.trans e1'
        have gd0 : Gds ([some dx, some dy] ++ rest) Ls := gd
        obtain ⟨L1, L2', Ls', rfl, g1, g2, gd1⟩ : ∃ L1 L2 Ls', Ls = L1 :: L2 :: Ls' ∧ Gd L1 (some dx) ∧ Gd L2 (some dy) ∧ Gds rest Ls' := by
          cases gd0 with
          | cons c1 r1 =>
            cases r1 with
            | cons c2 r2 => exact ⟨_, _, _, rfl, c1, c2, r2⟩
        have alg := IsLs.ex eg al
        obtain ⟨p1, us1, p2, us2, vs', rfl, n1, n2, hp1, hp2, a1, a2, al'⟩ : ∃ p1 us1 p2 us2 vs', vs = .ref p1 :: .ref p2 :: vs' ∧ p1 ≠ dn ∧ p2 ≠ dn ∧ G1 p1 = some (.lst us1) ∧ G1 p2 = some (.lst us2) ∧ All2 (L1.map IsLot) us1 G1 ∧ All2 (L2'.map IsLot) us2 G1 ∧ All2 (Ls'.map (IsLs dn)) vs' G1 := by
          cases alg with
          | cons c1 r1 =>
            cases r1 with
            | cons c2 r2 =>
              obtain ⟨p1, us1, rfl, n1, h1, a1⟩ := c1
              obtain ⟨p2, us2, rfl, n2, h2, a2⟩ := c2
              exact ⟨p1, us1, p2, us2, _, rfl, n1, n2, h1, h2, a1, a2, r2⟩
        have e12 : (V.ref p1 :: .ref p2 :: vs').reverse = vs'.reverse ++ [.ref p2] ++ [.ref p1] := by simp
        have hdg := eg _ _ hd
        rw [e12] at hdg
        refine ⟨_, rfl, .inl ⟨rfl, _, sq_of hdg⟩, dn, _, .ref p1, rfl, rfl, hdg, snoc_last _ _, ?_⟩
        rw [List.dropLast_concat]
        refine ⟨_, rfl, .inl ⟨rfl, _, sq_of upd_same⟩, dn, _, .ref p2, rfl, rfl, upd_same, snoc_last _ _, _, _, rfl, ?_⟩
        rw [List.dropLast_concat]
        have t4' : TupEx G1 (L2.upd (L2.upd G1 dn (.lst (vs'.reverse ++ [.ref p2]))) dn (.lst vs'.reverse)) := (TupEx.lst hdg).trans (TupEx.lst upd_same)
        have ha4 := t4' _ _ (eg _ _ h)
        have x4 : Ex H (L2.upd (L2.upd G1 dn (.lst (vs'.reverse ++ [.ref p2]))) dn (.lst vs'.reverse)) := ((ex.trans eg).mut hdn).mut hdn
        have t4 := (tx.trans (TupEx.of eg)).trans t4'
        have p4 : L2.upd (L2.upd G1 dn (.lst (vs'.reverse ++ [.ref p2]))) dn (.lst vs'.reverse) pr = some (.lst ws.reverse) := by rw [upd_ne pd, upd_ne pd]; exact eg _ _ hp
        have d4 : L2.upd (L2.upd G1 dn (.lst (vs'.reverse ++ [.ref p2]))) dn (.lst vs'.reverse) dn = some (.lst vs'.reverse) := upd_same
        have q1 : L2.upd (L2.upd G1 dn (.lst (vs'.reverse ++ [.ref p2]))) dn (.lst vs'.reverse) p1 = some (.lst us1) := by rw [upd_ne n1, upd_ne n1]; exact hp1
        have q2 : L2.upd (L2.upd G1 dn (.lst (vs'.reverse ++ [.ref p2]))) dn (.lst vs'.reverse) p2 = some (.lst us2) := by rw [upd_ne n2, upd_ne n2]; exact hp2
        have a1 := All2.monT lots_monT t4' a1
        have a2 := All2.monT lots_monT t4' a2
        have al4 := IsLs.upd (ys := vs'.reverse) upd_same (IsLs.upd (ys := vs'.reverse ++ [.ref p2]) hdg al')
        revert ha4 x4 t4 p4 d4 q1 q2 a1 a2 al4
        generalize L2.upd (L2.upd G1 dn (.lst (vs'.reverse ++ [.ref p2]))) dn (.lst vs'.reverse) = G4
        intro ha4 x4 t4 p4 d4 q1 q2 a1 a2 al4
        dsimp only
        have td : max dx.deep dy.deep + 1 ≤ 4 := Nat.le_trans td deep4
        have c8 : (clO (some (Dm.either dx dy))).length ≤ 8 := cl8 td
        have c1 := g1.few
        have c2 := g2.few
        have c8 : dx.cl.length + dy.cl.length ≤ 8 := by
          have : (dx.cl ++ dy.cl).length ≤ 8 := c8
          rwa [List.length_append] at this
        have w3 : wd (max dx.deep dy.deep) ≤ 16 := Nat.le_trans (wd_mono (n := 3) (by omega)) (by decide)
        have wdb := (wd_both g1.len g2.len).2
        refine ⟨_, rfl, .inl ⟨rfl, _, sq_of d4⟩, if_at (b := false) (et_is (et_test (ev_op (ev_op (ev_var rfl) ev_c (rv_ixT (st_of ha4) (atI_nat (j := 0) rfl))) ev_c (rv_eq rfl))) (by decide)) (fun z => nomatch z) (fun _ G5 e5 => ?_)⟩
        have len1 := a1.len
        have len2 := a2.len
        rw [List.length_map] at len1 len2
        refine ⟨_, rfl, _, rfl, p1, p2, us1, us2, rfl, rfl, e5 _ _ q1, e5 _ _ q2, sz_of (by omega), fun l hl => ?_⟩
        have e6 := Ex.new (o := .lst (us1 ++ us2)) hl
        obtain ⟨j1, j2, j3, j4, j5⟩ := Gd.one g1 g2
        have jl : (L1 ++ L2').length ≤ 16 := by omega
        refine ⟨l, _, L1 ++ L2', rfl, upd_same, by rw [List.map_append]; exact All2.app (All2.monT lots_monT (TupEx.of (e5.trans e6)) a1) (All2.monT lots_monT (TupEx.of (e5.trans e6)) a2), by omega, fun b hb => ⟨j1 b hb, fun z hz => wo z (tc z (j2 b hb z hz)), j5 b hb, ?_⟩, fun r ls L G7 e7 nr hr aL okL subL minL covL => ?_⟩
        · have := nodup_leD b _ (j1 b hb).nd (j2 b hb)
          have e : (clO (some (Dm.either dx dy))).length = dx.cl.length + dy.cl.length := List.length_append
          omega
        have e57 := (e5.trans e6).trans e7
        refine ⟨dn, _, .ref r, rfl, rfl, e57 _ _ d4, by rw [List.length_reverse]; simp only [List.length_cons] at bl; exact sz_lt (by omega), fin L r ls vs' Ls' G7 _ _ _ (x4.trans e57) (t4.trans (TupEx.of e57)) (e57 _ _ p4) (e57 _ _ d4) (fun z => ?_) hr aL (Gd.least j1 j2 j3 j4 okL subL minL covL) (IsLs.ex e57 al4) gd1⟩
        rw [z, (e5.trans e6) _ _ d4] at nr
        cases nr
  · rintro σ' H' ⟨vs, Ls, x2, x3, x4, rfl, hd, al, gd, ex, tx, hp⟩
    rw [List.length_reverse, ← lw, ← hn, Nat.sub_self] at gd
    cases gd with
    | @cons _ L _ _ g1 g2 =>
      cases g2
      cases al with
      | @cons _ v _ _ h1 h2 =>
        cases h2
        obtain ⟨r, us, rfl, ne, hr, aL⟩ := h1
        refine ⟨_, rfl, dn, _, 0, .ref r, rfl, rfl, sq_of hd, atI_nat (j := 0) rfl, r, us, rfl, .inl ⟨sq_of hr, fun l hl => ?_⟩⟩
        have e5 := Ex.new (o := .tup us) hl
        exact k l us L _ (ex.trans e5) upd_same (All2.monT lots_monT (TupEx.of e5) aL) g1
end
end K10
set_option maxHeartbeats 4000000
/-! Things of one text are one thing. -/
namespace LL
open PySem PySem.Spec PyProof.Rows L2 Evl
mutual
def Thg.dT : Thg → PyData
  | .num i => .int i
  | .word s => .str s
  | .node h xs => .tuple (.str h :: Thg.dTs xs)
def Thg.dTs : List Thg → List PyData
  | [] => []
  | x :: xs => x.dT :: Thg.dTs xs
end
/-- a word whose repr is itself between quotes -/
def plainW (s : Str) : Bool := decide ((reprText s).cps.toList = 39 :: (s.cps.toList ++ [39])) && !(s.cps.toList.contains 39)
mutual
def Thg.Pl : Thg → Prop
  | .num _ => True
  | .word s => plainW s = true
  | .node h xs => plainW h = true ∧ Thg.PlL xs
def Thg.PlL : List Thg → Prop
  | [] => True
  | x :: xs => x.Pl ∧ Thg.PlL xs
end
def Thg.tx (t : Thg) : List Nat := t.dT.shown.cps.toList
def bodyT : List Thg → List Nat
  | [] => [41]
  | x :: xs => 44 :: 32 :: (x.tx ++ bodyT xs)
theorem join_signs (x : Str) : ∀ ts : List Str, (Str.join ", " (x :: ts)).cps.toList = x.cps.toList ++ ts.flatMap fun t => 44 :: 32 :: t.cps.toList
  | [] => by simp [join_one]
  | t :: ts => by
    rw [join_cons_cons, cps_toList_append, cps_toList_append, join_signs t ts, signs_sep]
    simp
theorem body_eq : ∀ xs : List Thg, ((PyData.shownAll (Thg.dTs xs)).flatMap fun t => 44 :: 32 :: t.cps.toList) ++ [41] = bodyT xs
  | [] => by
    simp only [Thg.dTs, PyData.shownAll_nil]
    rfl
  | x :: xs => by
    simp only [Thg.dTs, PyData.shownAll_cons, List.flatMap_cons, bodyT]
    rw [List.append_assoc, body_eq xs]
    rfl
theorem dTs_len : ∀ xs : List Thg, (Thg.dTs xs).length = xs.length
  | [] => rfl
  | _ :: xs => congrArg (· + 1) (dTs_len xs)
theorem tx_node (h : Str) (xs : List Thg) : (Thg.node h xs).tx = 40 :: ((reprText h).cps.toList ++ (if xs = [] then [44, 41] else bodyT xs)) := by
  unfold Thg.tx
  simp only [Thg.dT]
  rw [PyData.shown_tuple, cps_toList_append, cps_toList_append, PyData.shownAll_cons, join_signs, PyData.shown_str, signs_lparen]
  cases xs with
  | nil =>
    simp only [Thg.dTs, PyData.shownAll_nil]
    have e : (Str.ofString ",)").cps.toList = [44, 41] := by decide
    simp [e]
  | cons x xs =>
    have e : (Str.ofString ")").cps.toList = [41] := by decide
    have ne : ¬ ((PyData.str h :: Thg.dTs (x :: xs)).length == 1) = true := by
      rw [List.length_cons, dTs_len]
      simp
    rw [if_neg ne, if_neg (by simp), ← body_eq (x :: xs)]
    show [40] ++ _ ++ (Str.ofString ")").cps.toList = _
    rw [e]
    simp
def EndT (y : List Nat) : Prop := ∀ c r, y = c :: r → c = 44 ∨ c = 41
theorem end_body (xs : List Thg) (y : List Nat) : EndT (bodyT xs ++ y) := by
  intro c r e
  cases xs with
  | nil =>
    have e : 41 :: y = c :: r := e
    cases e
    exact .inr rfl
  | cons x xs =>
    have e : 44 :: _ = c :: r := e
    cases e
    exact .inl rfl
theorem split_end : ∀ (s t y z : List Nat), (∀ c ∈ s, c ≠ 44 ∧ c ≠ 41) → (∀ c ∈ t, c ≠ 44 ∧ c ≠ 41) → EndT y → EndT z → s ++ y = t ++ z → s = t ∧ y = z
  | [], [], y, z, _, _, _, _, e => ⟨rfl, e⟩
  | [], c :: t, y, z, _, h, hy, _, e => by
    have := hy c (t ++ z) e
    have q := h c List.mem_cons_self
    omega
  | c :: s, [], y, z, h, _, _, hz, e => by
    have := hz c (s ++ y) e.symm
    have q := h c List.mem_cons_self
    omega
  | c :: s, d :: t, y, z, h, k, hy, hz, e => by
    have e1 : c = d := (List.cons.inj e).1
    obtain ⟨e2, e3⟩ := split_end s t y z (fun a ha => h a (List.mem_cons_of_mem _ ha)) (fun a ha => k a (List.mem_cons_of_mem _ ha)) hy hz (List.cons.inj e).2
    exact ⟨by rw [e1, e2], e3⟩
theorem split_q : ∀ (s t y z : List Nat), 39 ∉ s → 39 ∉ t → s ++ 39 :: y = t ++ 39 :: z → s = t ∧ y = z
  | [], [], y, z, _, _, e => ⟨rfl, (List.cons.inj e).2⟩
  | [], c :: t, y, z, _, h, e => by
    have e1 : 39 = c := (List.cons.inj e).1
    exact absurd (by rw [e1]; exact List.mem_cons_self) h
  | c :: s, [], y, z, h, _, e => by
    have e1 : c = 39 := (List.cons.inj e).1
    exact absurd (by rw [e1]; exact List.mem_cons_self) h
  | c :: s, d :: t, y, z, h, k, e => by
    have e1 : c = d := (List.cons.inj e).1
    obtain ⟨e2, e3⟩ := split_q s t y z (fun q => h (List.mem_cons_of_mem _ q)) (fun q => k (List.mem_cons_of_mem _ q)) (List.cons.inj e).2
    exact ⟨by rw [e1, e2], e3⟩
theorem plainW_at {s : Str} (h : plainW s = true) : (reprText s).cps.toList = 39 :: (s.cps.toList ++ [39]) ∧ 39 ∉ s.cps.toList := by
  obtain ⟨h1, h2⟩ := Bool.and_eq_true_iff.mp h
  exact ⟨of_decide_eq_true h1, by simpa using h2⟩
theorem str_ext {a b : Str} (h : a.cps.toList = b.cps.toList) : a = b := by
  obtain ⟨a⟩ := a
  obtain ⟨b⟩ := b
  exact congrArg Str.mk (Array.toList_inj.mp h)
theorem int_ext {i j : Int} (h : (PyData.int i).shown.cps.toList = (PyData.int j).shown.cps.toList) : i = j := by
  rw [PyData.shown_int, PyData.shown_int, signs_ofString, signs_ofString] at h
  have inj : ∀ {xs ys : List Char}, xs.map Char.toNat = ys.map Char.toNat → xs = ys := by
    intro xs
    induction xs with
    | nil => intro ys h; cases ys <;> simp at h ⊢
    | cons x xs ih =>
      intro ys h
      cases ys with
      | nil => simp at h
      | cons y ys =>
        simp only [List.map_cons, List.cons.injEq] at h
        have e1 : x = y := Char.ext (UInt32.toNat_inj.mp h.1)
        rw [e1, ih h.2]
  have e := inj h
  have e2 : toString i = toString j := String.toList_inj.mp e
  rw [Int.toString_eq_repr, Int.toString_eq_repr] at e2
  exact Int.repr_inj.mp e2
theorem int_ends (i : Int) : ∀ c ∈ (PyData.int i).shown.cps.toList, c ≠ 44 ∧ c ≠ 41 := fun c hc => ⟨fun e => shown_int_free' (k := 44) (by omega) i (by rw [← e]; exact hc), fun e => shown_int_free' (k := 41) (by omega) i (by rw [← e]; exact hc)⟩
theorem int_head {i : Int} {y r : List Nat} {c : Nat} (hc : c ≠ 45 ∧ (c < 48 ∨ 57 < c)) (h44 : c ≠ 44 ∧ c ≠ 41) (hy : EndT y) (e : (PyData.int i).shown.cps.toList ++ y = c :: r) : False := by
  cases hs : (PyData.int i).shown.cps.toList with
  | nil =>
    rw [hs] at e
    have := hy c r e
    omega
  | cons d s =>
    rw [hs] at e
    have e1 : d = c := (List.cons.inj e).1
    exact shown_int_free' hc i (by rw [hs, e1]; exact List.mem_cons_self)
mutual
theorem tx_pre : ∀ (a b : Thg) (y z : List Nat), a.Pl → b.Pl → EndT y → EndT z → a.tx ++ y = b.tx ++ z → a = b ∧ y = z
  | .num i, .num j, y, z, _, _, hy, hz, e => by
    obtain ⟨e1, e2⟩ := split_end _ _ y z (int_ends i) (int_ends j) hy hz e
    exact ⟨by rw [int_ext e1], e2⟩
  | .num i, .word s, y, z, _, hb, hy, hz, e => by
    have e : (PyData.int i).shown.cps.toList ++ y = (PyData.str s).shown.cps.toList ++ z := e
    rw [PyData.shown_str, (plainW_at hb).1] at e
    exact (int_head (by omega) (by omega) hy e).elim
  | .num i, .node h xs, y, z, _, hb, hy, hz, e => by
    rw [tx_node] at e
    exact (int_head (by omega) (by omega) hy e).elim
  | .word s, .num j, y, z, ha, _, hy, hz, e => by
    have e : (PyData.str s).shown.cps.toList ++ y = (PyData.int j).shown.cps.toList ++ z := e
    rw [PyData.shown_str, (plainW_at ha).1] at e
    exact (int_head (by omega) (by omega) hz e.symm).elim
  | .word s, .word t, y, z, ha, hb, hy, hz, e => by
    have e : (PyData.str s).shown.cps.toList ++ y = (PyData.str t).shown.cps.toList ++ z := e
    rw [PyData.shown_str, PyData.shown_str, (plainW_at ha).1, (plainW_at hb).1] at e
    have e : (s.cps.toList ++ [39]) ++ y = (t.cps.toList ++ [39]) ++ z := (List.cons.inj e).2
    rw [List.append_assoc, List.append_assoc] at e
    obtain ⟨e1, e2⟩ := split_q _ _ y z (plainW_at ha).2 (plainW_at hb).2 e
    exact ⟨by rw [str_ext e1], e2⟩
  | .word s, .node h xs, y, z, ha, hb, hy, hz, e => by
    have e : (PyData.str s).shown.cps.toList ++ y = (Thg.node h xs).tx ++ z := e
    rw [PyData.shown_str, (plainW_at ha).1, tx_node] at e
    have := (List.cons.inj e).1
    omega
  | .node h xs, .num j, y, z, ha, _, hy, hz, e => by
    rw [tx_node] at e
    exact (int_head (by omega) (by omega) hz e.symm).elim
  | .node h xs, .word s, y, z, ha, hb, hy, hz, e => by
    have e : (Thg.node h xs).tx ++ y = (PyData.str s).shown.cps.toList ++ z := e
    rw [PyData.shown_str, (plainW_at hb).1, tx_node] at e
    have := (List.cons.inj e).1
    omega
  | .node h xs, .node k ys, y, z, ha, hb, hy, hz, e => by
    rw [tx_node, tx_node, (plainW_at ha.1).1, (plainW_at hb.1).1] at e
    have e := (List.cons.inj e).2
    simp only [List.cons_append, List.append_assoc] at e
    have e := (List.cons.inj e).2
    have e : (h.cps.toList ++ 39 :: (if xs = [] then [44, 41] else bodyT xs)) ++ y = (k.cps.toList ++ 39 :: (if ys = [] then [44, 41] else bodyT ys)) ++ z := e
    rw [List.append_assoc, List.append_assoc] at e
    obtain ⟨e1, e2⟩ := split_q _ _ _ _ (plainW_at ha.1).2 (plainW_at hb.1).2 e
    have e2 : (if xs = [] then [44, 41] else bodyT xs) ++ y = (if ys = [] then [44, 41] else bodyT ys) ++ z := e2
    rw [str_ext e1]
    cases xs with
    | nil =>
      cases ys with
      | nil =>
        rw [if_pos rfl] at e2
        exact ⟨rfl, (List.cons.inj (List.cons.inj e2).2).2⟩
      | cons b bs =>
        rw [if_pos rfl, if_neg (by simp)] at e2
        have := (List.cons.inj (List.cons.inj e2).2).1
        omega
    | cons a as =>
      cases ys with
      | nil =>
        rw [if_pos rfl, if_neg (by simp)] at e2
        have := (List.cons.inj (List.cons.inj e2).2).1
        omega
      | cons b bs =>
        rw [if_neg (by simp), if_neg (by simp)] at e2
        obtain ⟨e3, e4⟩ := body_pre (a :: as) (b :: bs) y z ha.2 hb.2 e2
        exact ⟨by rw [e3], e4⟩
theorem body_pre : ∀ (xs ys : List Thg) (y z : List Nat), Thg.PlL xs → Thg.PlL ys → bodyT xs ++ y = bodyT ys ++ z → xs = ys ∧ y = z
  | [], [], y, z, _, _, e => ⟨rfl, (List.cons.inj e).2⟩
  | [], b :: bs, y, z, _, _, e => by
    have := (List.cons.inj e).1
    omega
  | a :: as, [], y, z, _, _, e => by
    have := (List.cons.inj e).1
    omega
  | a :: as, b :: bs, y, z, ha, hb, e => by
    have e : (a.tx ++ bodyT as) ++ y = (b.tx ++ bodyT bs) ++ z := (List.cons.inj (List.cons.inj e).2).2
    rw [List.append_assoc, List.append_assoc] at e
    obtain ⟨e1, e2⟩ := tx_pre a b _ _ ha.1 hb.1 (end_body as y) (end_body bs z) e
    obtain ⟨e3, e4⟩ := body_pre as bs y z ha.2 hb.2 e2
    exact ⟨by rw [e1, e3], e4⟩
end
/-- one text, one thing -/
theorem Thg.tx_inj {a b : Thg} (ha : a.Pl) (hb : b.Pl) (h : a.dT.shown = b.dT.shown) : a = b :=
  (tx_pre a b [] [] ha hb nofun nofun (by show a.tx ++ [] = b.tx ++ []; unfold Thg.tx; rw [h])).1
end LL
set_option maxHeartbeats 4000000
/-! How deep a datum is, and how long its text. -/
namespace LL
open PySem PySem.Spec PyProof.Rows L2
structure Lim (n k : Nat) (d : PyData) : Prop where
  sh : d.showable = true
  dp : d.depth ≤ n
  ln : d.shown.length ≤ k
theorem Lim.mono {n k n' k' : Nat} {d : PyData} (h : Lim n k d) (h1 : n ≤ n') (h2 : k ≤ k') : Lim n' k' d := ⟨h.sh, Nat.le_trans h.dp h1, Nat.le_trans h.ln h2⟩
theorem slen (a b : Str) : (a ++ b).length = a.length + b.length := by
  first | exact PySem.StrLaws.length_append a b | exact Str.length_append a b
theorem join_len {k : Nat} : ∀ {ts : List Str}, (∀ t ∈ ts, t.length ≤ k) → (Str.join ", " ts).length ≤ (k + 2) * ts.length
  | [], _ => by
    have e : (Str.join ", " []).length = 0 := by decide
    omega
  | [x], h => by
    have := h x List.mem_cons_self
    show x.length ≤ _
    simp only [List.length_cons, List.length_nil]
    omega
  | x :: y :: r, h => by
    have h1 := h x List.mem_cons_self
    have h2 := join_len (ts := y :: r) fun t ht => h t (List.mem_cons_of_mem _ ht)
    show (x ++ (", " : Str) ++ Str.join ", " (y :: r)).length ≤ _
    rw [slen, slen]
    have e : (", " : Str).length = 2 := by decide
    rw [e, List.length_cons, Nat.mul_succ]
    omega
theorem shownAll_mem {k : Nat} : ∀ {xs : List PyData}, (∀ x ∈ xs, x.shown.length ≤ k) → ∀ t ∈ PyData.shownAll xs, t.length ≤ k
  | [], _, t, ht => by
    rw [PyData.shownAll_nil] at ht
    cases ht
  | x :: xs, h, t, ht => by
    rw [PyData.shownAll_cons] at ht
    rcases List.mem_cons.mp ht with e | e
    · rw [e]
      exact h x List.mem_cons_self
    · exact shownAll_mem (fun y hy => h y (List.mem_cons_of_mem _ hy)) t e
theorem showAll {xs : List PyData} (h : ∀ x ∈ xs, PyData.showable x = true) : PyData.showableAll xs = true := by
  induction xs with
  | nil => simp only [PyData.showableAll]
  | cons x xs ih =>
    simp only [PyData.showableAll, Bool.and_eq_true]
    exact ⟨h x List.mem_cons_self, ih fun y hy => h y (List.mem_cons_of_mem _ hy)⟩
theorem depAll {n : Nat} {xs : List PyData} (h : ∀ x ∈ xs, PyData.depth x ≤ n) : PyData.depthAll xs ≤ n := by
  induction xs with
  | nil => simp only [PyData.depthAll]; omega
  | cons x xs ih =>
    simp only [PyData.depthAll]
    have h1 := h x List.mem_cons_self
    have h2 := ih fun y hy => h y (List.mem_cons_of_mem _ hy)
    omega
theorem Lim.list {n k : Nat} {xs : List PyData} (h : ∀ x ∈ xs, Lim n k x) : Lim (n + 1) ((k + 2) * xs.length + 2) (.list xs) := by
  refine ⟨by simp only [PyData.showable]; exact showAll fun x hx => (h x hx).sh, by simp only [PyData.depth]; exact Nat.succ_le_succ (depAll fun x hx => (h x hx).dp), ?_⟩
  rw [PyData.shown_list, slen, slen]
  have e1 : ("[" : Str).length = 1 := by decide
  have e2 : ("]" : Str).length = 1 := by decide
  have e3 := join_len (shownAll_mem fun x hx => (h x hx).ln)
  rw [PyData.shownAll_length] at e3
  rw [e1, e2]
  omega
theorem Lim.tuple {n k : Nat} {xs : List PyData} (h : ∀ x ∈ xs, Lim n k x) : Lim (n + 1) ((k + 2) * xs.length + 3) (.tuple xs) := by
  refine ⟨by simp only [PyData.showable]; exact showAll fun x hx => (h x hx).sh, by simp only [PyData.depth]; exact Nat.succ_le_succ (depAll fun x hx => (h x hx).dp), ?_⟩
  rw [PyData.shown_tuple, slen, slen]
  have e1 : ("(" : Str).length = 1 := by decide
  have e2 : (Str.ofString (if (xs.length == 1) = true then ",)" else ")" : String)).length ≤ 2 := by
    split <;> decide
  have e3 := join_len (shownAll_mem fun x hx => (h x hx).ln)
  rw [PyData.shownAll_length] at e3
  rw [e1]
  omega
theorem Lim.dict0 : Lim 1 2 (.dict []) := ⟨by simp only [PyData.showable, PyData.showableKv], by simp only [PyData.depth, PyData.depthKv]; omega, by
  rw [PyData.shown_dict, PyData.shownKv_nil]
  decide⟩
theorem Lim.dict1 {n i j : Nat} {k v : PyData} (hk : Lim n i k) (hv : Lim n j v) : Lim (n + 1) (i + j + 4) (.dict [(k, v)]) := by
  refine ⟨by simp only [PyData.showable, PyData.showableKv, hk.sh, hv.sh, Bool.and_self], by simp only [PyData.depth, PyData.depthKv]; have := hk.dp; have := hv.dp; omega, ?_⟩
  rw [PyData.shown_dict, PyData.shownKv_cons, PyData.shownKv_nil, slen, slen]
  have e1 : ("{" : Str).length = 1 := by decide
  have e2 : ("}" : Str).length = 1 := by decide
  have e4 : (": " : Str).length = 2 := by decide
  rw [e1, e2]
  show 1 + (k.shown ++ (": " : Str) ++ v.shown).length + 1 ≤ _
  rw [slen, slen, e4]
  have := hk.ln
  have := hv.ln
  omega
theorem Lim.non : Lim 0 4 .none := ⟨by simp only [PyData.showable], by simp only [PyData.depth]; omega, by rw [PyData.shown_none]; decide⟩
theorem Lim.bool (b : Bool) : Lim 0 5 (.bool b) := ⟨by simp only [PyData.showable], by simp only [PyData.depth]; omega, by rw [PyData.shown_bool]; cases b <;> decide⟩
theorem Lim.int {i : Int} {k : Nat} (hk : 0 < k) (h : i.natAbs < 10 ^ k) (hl : i.natAbs.log2 < 1920) : Lim 0 (k + 1) (.int i) := by
  refine ⟨by simp only [PyData.showable]; exact decide_eq_true hl, by simp only [PyData.depth]; omega, ?_⟩
  rw [PyData.shown_int]
  have e := int_text_length_le10 hk h
  show (Str.ofString (toString i)).length ≤ _
  rw [PySem.ofString_length]
  exact e
theorem Lim.str {x : Str} {k : Nat} (h : (reprText x).length ≤ k) : Lim 0 k (.str x) := ⟨by simp only [PyData.showable], by simp only [PyData.depth]; omega, by rw [PyData.shown_str]; exact h⟩
theorem Lim.pair {n i j : Nat} {a b : PyData} (ha : Lim n i a) (hb : Lim n j b) : Lim (n + 1) (i + j + 4) (.tuple [a, b]) := by
  refine ⟨by simp only [PyData.showable, PyData.showableAll, ha.sh, hb.sh, Bool.and_self], by simp only [PyData.depth, PyData.depthAll]; have := ha.dp; have := hb.dp; omega, ?_⟩
  rw [PyData.shown_tuple, PyData.shownAll_cons, PyData.shownAll_cons, PyData.shownAll_nil, slen, slen]
  have e1 : ("(" : Str).length = 1 := by decide
  have e2 : (Str.ofString (if ([a, b].length == 1) = true then ",)" else ")" : String)).length = 1 := by
    show (Str.ofString ")").length = 1; decide
  have e4 : (", " : Str).length = 2 := by decide
  rw [e1, e2]
  show 1 + (a.shown ++ (", " : Str) ++ b.shown).length + 1 ≤ _
  rw [slen, slen, e4]
  have := ha.ln
  have := hb.ln
  omega
end LL
set_option maxHeartbeats 4000000
/-! repr of any datum, 250 deep; the text of a thing. -/
namespace LL
open PySem PySem.Spec PyProof.Rows L2 Evl
def notNB : PyData → Bool
  | .none => false
  | .bool _ => false
  | _ => true
def rReprD : List V → Hp → VK → Prop := fun xs H Q => ∃ (l : Addr) (v : V) (d : PyData), xs = [v] ∧ Dz l H v d ∧ notNB d = true ∧ d.showable = true ∧ d.depth ≤ 250 ∧ d.shown.length ≤ sizeLine ∧ Q (.str d.shown) H
theorem call_repr_ref {X : Cx} {l : Addr} (y : Sys X.K) (hg : X.A.guards = some []) (hu : X.A.units + 252 < cLine) : CallR X (.builtin "repr") (fun xs H Q => ∃ (a : Addr) (d : PyData), xs = [.ref a] ∧ Dz l H (.ref a) d ∧ d.showable = true ∧ d.depth ≤ 250 ∧ d.shown.length ≤ sizeLine ∧ Q (.str d.shown) H) := by
  intro pins s σ H xs us Q I r h
  obtain ⟨a, d, rfl, hd, hs, hp, hz, q⟩ := h
  obtain ⟨u, rfl, r1⟩ := vals1 r
  cases (show u = Value.ref a from r1)
  obtain ⟨as, rd, ns⟩ := hd.reads y I rfl
  exact repr_of_reads' rd hs (fun _ => ns) hg (by omega) (fun _ _ e => e) (fun h' u tk k => ⟨.str d.shown, H, I.kept (t' := tk) k, ⟨u, rfl⟩, q⟩) hz
theorem call_repr_str {X : Cx} : CallR X (.builtin "repr") (fun xs H Q => ∃ x, xs = [.str x] ∧ (reprText x).length ≤ sizeLine ∧ Q (.str (reprText x)) H) := by
  intro pins s σ H xs us Q I r h
  obtain ⟨x, rfl, hz, q⟩ := h
  obtain ⟨u, rfl, t, rfl⟩ := vals1 r
  exact call_repr_gives (typeIs_str s x t) F.slot_str_repr F.entry_str_repr (F.args_str_repr_1 _) (gives_str_repr x t) ⟨.str _, H, I.tok _, ⟨_, rfl⟩, q⟩ rfl hz
theorem call_reprD {X : Cx} (y : Sys X.K) (hg : X.A.guards = some []) (hu : X.A.units + 252 < cLine) : CallR X (.builtin "repr") rReprD := by
  intro pins s σ H xs us Q I r h
  obtain ⟨l, v, d, rfl, hd, hn, hs, hp, hz, q⟩ := h
  cases hd with
  | non => cases hn
  | bl b => cases hn
  | int i => exact SkE.call_repr_int pins s σ H _ us Q I r ⟨i, rfl, by simpa [PyData.showable] using hs, by rw [PyData.shown_int] at q; exact q⟩
  | str x => exact call_repr_str pins s σ H _ us Q I r ⟨x, rfl, by rw [PyData.shown_str] at hz; exact hz, by rw [PyData.shown_str] at q; exact q⟩
  | lst n h k => exact call_repr_ref y hg hu pins s σ H _ us Q I r ⟨_, _, rfl, .lst n h k, hs, hp, hz, q⟩
  | tup n h k => exact call_repr_ref y hg hu pins s σ H _ us Q I r ⟨_, _, rfl, .tup n h k, hs, hp, hz, q⟩
  | dic n h k => exact call_repr_ref y hg hu pins s σ H _ us Q I r ⟨_, _, rfl, .dic n h k, hs, hp, hz, q⟩
  | dit n h k => exact call_repr_ref y hg hu pins s σ H _ us Q I r ⟨_, _, rfl, .dit n h k, hs, hp, hz, q⟩
mutual
theorem Tv.dz {l : Addr} {H : Hp} (hl : ∀ xs, H l ≠ some (.tup xs)) : ∀ {v : V} {t : Thg}, Tv H v t → Dz l H v t.dT
  | _, _, .num i => .int i
  | _, _, .word s => .str s
  | _, _, .node h hs _ => .tup (fun e => hl _ (by rw [← e]; exact h)) h (.cons (.str _) (Tvs.dz hl hs))
theorem Tvs.dz {l : Addr} {H : Hp} (hl : ∀ xs, H l ≠ some (.tup xs)) : ∀ {vs : List V} {ts : List Thg}, Tvs H vs ts → Dzs l H vs (Thg.dTs ts)
  | _, _, .nil => .nil
  | _, _, .cons h hs => .cons (Tv.dz hl h) (Tvs.dz hl hs)
end
mutual
/-- numbers below 10^30, words of 30 signs -/
def Thg.Sm : Thg → Prop
  | .num i => i.natAbs < 10 ^ 30
  | .word s => (reprText s).length ≤ 30
  | .node h xs => (reprText h).length ≤ 30 ∧ Thg.SmL xs
def Thg.SmL : List Thg → Prop
  | [] => True
  | x :: xs => x.Sm ∧ Thg.SmL xs
end
mutual
def Thg.dp : Thg → Nat
  | .node _ xs => Thg.dpL xs + 1
  | _ => 0
def Thg.dpL : List Thg → Nat
  | [] => 0
  | x :: xs => max x.dp (Thg.dpL xs)
end
mutual
def Thg.sz : Thg → Nat
  | .node _ xs => Thg.szL xs + 1
  | _ => 1
def Thg.szL : List Thg → Nat
  | [] => 0
  | x :: xs => x.sz + Thg.szL xs
end
theorem join_sum : ∀ ts : List Str, (Str.join ", " ts).length ≤ (ts.map Str.length).sum + 2 * ts.length
  | [] => by
    have e : (Str.join ", " []).length = 0 := by decide
    omega
  | [x] => by
    show x.length ≤ _
    simp
  | x :: y :: r => by
    have h2 := join_sum (y :: r)
    show (x ++ (", " : Str) ++ Str.join ", " (y :: r)).length ≤ _
    rw [slen, slen]
    have e : (", " : Str).length = 2 := by decide
    rw [e, List.map_cons, List.sum_cons, List.length_cons]
    omega
theorem pow30 : (10 : Nat) ^ 30 < 2 ^ 1920 := by decide +kernel
theorem lim_num {i : Int} (h : i.natAbs < 10 ^ 30) : Lim 0 31 (.int i) := Lim.int (k := 30) (by decide) h (by
  by_cases h0 : i.natAbs = 0
  · rw [h0]
    decide
  · exact (Nat.log2_lt h0).mpr (Nat.lt_trans h pow30))
mutual
theorem Thg.lim : ∀ {t : Thg}, t.Sm → Lim t.dp (40 * t.sz - 2) t.dT
  | .num i, h => (lim_num h).mono (Nat.le_refl _) (by show 31 ≤ 40 * 1 - 2; omega)
  | .word s, h => (Lim.str h).mono (Nat.le_refl _) (by show 30 ≤ 40 * 1 - 2; omega)
  | .node k xs, h => by
    have g1 : (reprText k).length ≤ 30 := h.1
    obtain ⟨a, b, c⟩ := Thg.limL h.2
    refine ⟨?_, ?_, ?_⟩
    · simp only [Thg.dT, PyData.showable, PyData.showableAll, Bool.and_eq_true, true_and, a]
    · simp only [Thg.dT, PyData.depth, PyData.depthAll, Thg.dp]
      omega
    · have e : (Thg.node k xs).dT = .tuple (.str k :: Thg.dTs xs) := rfl
      rw [e, PyData.shown_tuple, slen, slen]
      have e1 : ("(" : Str).length = 1 := by decide
      have e2 : (Str.ofString (if ((PyData.str k :: Thg.dTs xs).length == 1) = true then ",)" else ")" : String)).length ≤ 2 := by
        split <;> decide
      have e3 := join_sum (PyData.shownAll (.str k :: Thg.dTs xs))
      rw [PyData.shownAll_length, PyData.shownAll_cons, List.map_cons, List.sum_cons, PyData.shown_str, List.length_cons, dTs_len] at e3
      rw [PyData.shownAll_cons, PyData.shown_str] at *
      have e4 : (Thg.node k xs).sz = Thg.szL xs + 1 := rfl
      rw [e4, e1]
      omega
theorem Thg.limL : ∀ {ts : List Thg}, Thg.SmL ts → PyData.showableAll (Thg.dTs ts) = true ∧ PyData.depthAll (Thg.dTs ts) ≤ Thg.dpL ts ∧ ((PyData.shownAll (Thg.dTs ts)).map Str.length).sum + 2 * ts.length ≤ 40 * Thg.szL ts
  | [], _ => ⟨by simp only [Thg.dTs, PyData.showableAll], by simp only [Thg.dTs, PyData.depthAll]; omega, by simp only [Thg.dTs]; rw [PyData.shownAll_nil]; simp⟩
  | t :: ts, h => by
    have p := Thg.lim h.1
    obtain ⟨a, b, c⟩ := Thg.limL h.2
    refine ⟨?_, ?_, ?_⟩
    · simp only [Thg.dTs, PyData.showableAll, Bool.and_eq_true]
      exact ⟨p.sh, a⟩
    · have := p.dp
      simp only [Thg.dTs, PyData.depthAll, Thg.dpL]
      omega
    · have := p.ln
      have hz : 1 ≤ t.sz := by cases t <;> simp [Thg.sz]
      simp only [Thg.dTs]
      rw [PyData.shownAll_cons, List.map_cons, List.sum_cons, List.length_cons]
      simp only [Thg.szL]
      omega
end
end LL
set_option maxHeartbeats 4000000
/-! A filling of all unknowns is fixed by what it leads to. -/
namespace LL
open PySem PySem.Spec PyProof.Rows L2 Evl
mutual
theorem Thg.sub_fix {G G' : Int → Thg} : ∀ (t : Thg), Thg.sub (all_ G) t = Thg.sub (all_ G') t → ∀ n ∈ Thg.unkL [t], G n = G' n
  | .num _, _, n, h => by simp [Thg.unkL, Thg.preL, Thg.pre, Thg.unk] at h
  | .word _, _, n, h => by simp [Thg.unkL, Thg.preL, Thg.pre, Thg.unk] at h
  | .node k xs, e, n, h => by
    rw [Thg.unkL_one] at h
    by_cases h0 : k = "?"
    · subst h0
      have hk : (Thg.node "?" xs).kids = [] := by simp [Thg.kids, Thg.leafy]
      rw [hk] at h
      match xs, e, h with
      | [.num m], e, h =>
        have hn : n = m := by simpa [Thg.unk, Thg.unkL, Thg.preL] using h
        rw [Thg.sub_open, Thg.sub_open] at e
        rw [hn, e]
      | [], e, h => simp [Thg.unk, Thg.unkL, Thg.preL] at h
      | [.word _], e, h => simp [Thg.unk, Thg.unkL, Thg.preL] at h
      | [.node _ _], e, h => simp [Thg.unk, Thg.unkL, Thg.preL] at h
      | _ :: _ :: _, e, h => simp [Thg.unk, Thg.unkL, Thg.preL] at h
    · have ho : (Thg.node k xs).isO = false := by simpa [Thg.isO] using h0
      rw [Thg.unk_closed ho] at h
      have h : n ∈ Thg.unkL (Thg.node k xs).kids := by simpa using h
      by_cases h1 : k = "~"
      · have hk : (Thg.node k xs).kids = [] := by simp [Thg.kids, Thg.leafy, h1]
        rw [hk] at h
        simp [Thg.unkL, Thg.preL] at h
      · have hl : Thg.leafy k = false := by simp [Thg.leafy, h0, h1]
        have hk : (Thg.node k xs).kids = xs := by simp [Thg.kids, hl]
        rw [hk] at h
        simp only [Thg.sub, if_neg h0, if_neg h1] at e
        exact Thg.subL_fix xs (by cases e' : Thg.subL (all_ G) xs <;> (rw [e'] at e; simpa using e)) n h
theorem Thg.subL_fix {G G' : Int → Thg} : ∀ (ts : List Thg), Thg.subL (all_ G) ts = Thg.subL (all_ G') ts → ∀ n ∈ Thg.unkL ts, G n = G' n
  | [], _, n, h => by simp [Thg.unkL, Thg.preL] at h
  | t :: ts, e, n, h => by
    have es : Thg.unkL (t :: ts) = Thg.unkL [t] ++ Thg.unkL ts := Thg.unkL_app [t] ts
    rw [es] at h
    simp only [Thg.subL, List.cons.injEq] at e
    rcases List.mem_append.mp h with q | q
    · exact Thg.sub_fix t e.1 n q
    · exact Thg.subL_fix ts e.2 n q
end
/-- two fillings of just the unknowns that lead to one bundle are one -/
theorem fill_one {ts os : List Thg} {f g : Int → Option Thg} (hf : ∀ G, (∀ n t, f n = some t → G n = t) → Thg.subL (all_ G) ts = os) (df : ∀ n, n ∈ Thg.unkL ts ↔ f n ≠ none)
    (hg : ∀ G, (∀ n t, g n = some t → G n = t) → Thg.subL (all_ G) ts = os) (dg : ∀ n, n ∈ Thg.unkL ts ↔ g n ≠ none) : ∀ n, f n = g n := fun n => by
  have a := hf (fun n => (f n).getD (.num 0)) (fun n t h => by simp [h])
  have b := hg (fun n => (g n).getD (.num 0)) (fun n t h => by simp [h])
  have c := Thg.subL_fix ts (a.trans b.symm) n
  by_cases h : n ∈ Thg.unkL ts
  · have c := c h
    obtain ⟨x, hx⟩ := Option.ne_none_iff_exists'.mp ((df n).mp h)
    obtain ⟨y, hy⟩ := Option.ne_none_iff_exists'.mp ((dg n).mp h)
    rw [hx, hy] at c ⊢
    exact congrArg some c
  · have x : f n = none := Classical.byContradiction fun z => h ((df n).mpr z)
    have y : g n = none := Classical.byContradiction fun z => h ((dg n).mpr z)
    rw [x, y]
end LL
set_option maxHeartbeats 4000000
/-! Nice things: plain words out of some, small numbers, unknowns below 1000. -/
namespace LL
open PySem PySem.Spec PyProof.Rows L2 Evl
def WordOk (s : Str) : Prop := PyData.strOk s = true ∧ plainW s = true ∧ (reprText s).length ≤ 30
mutual
def Thg.Nc (W : Str → Prop) : Thg → Prop
  | .num i => i.natAbs < 10 ^ 30
  | .word s => W s ∧ WordOk s
  | .node h xs => WordOk h ∧ (Thg.leafy h = true → ∃ n : Int, xs = [.num n] ∧ (h = "?" → 0 ≤ n ∧ n < 1000)) ∧ Thg.NcL W xs
def Thg.NcL (W : Str → Prop) : List Thg → Prop
  | [] => True
  | x :: xs => x.Nc W ∧ Thg.NcL W xs
end
section
variable {W : Str → Prop} {f : Int → Option Thg}
theorem Thg.NcL.mem {ts : List Thg} (h : Thg.NcL W ts) : ∀ t ∈ ts, t.Nc W := by
  induction ts with
  | nil => intro t ht; cases ht
  | cons x xs ih =>
    intro t ht
    rcases List.mem_cons.mp ht with e | e
    · rw [e]; exact h.1
    · exact ih h.2 t e
theorem Thg.NcL.of {ts : List Thg} (h : ∀ t ∈ ts, t.Nc W) : Thg.NcL W ts := by
  induction ts with
  | nil => exact trivial
  | cons x xs ih => exact ⟨h x List.mem_cons_self, ih fun t ht => h t (List.mem_cons_of_mem _ ht)⟩
mutual
theorem Thg.Nc.wf : ∀ {t : Thg}, t.Nc W → t.Wf
  | .num _, _ => trivial
  | .word _, h => h.2.1
  | .node _ _, h => ⟨h.1.1, (fun z => by obtain ⟨n, e, _⟩ := h.2.1 z; exact ⟨n, e⟩), Thg.NcL.wf h.2.2⟩
theorem Thg.NcL.wf : ∀ {ts : List Thg}, Thg.NcL W ts → Thg.WfL ts
  | [], _ => trivial
  | _ :: _, h => ⟨Thg.Nc.wf h.1, Thg.NcL.wf h.2⟩
end
mutual
theorem Thg.Nc.pl : ∀ {t : Thg}, t.Nc W → t.Pl
  | .num _, _ => trivial
  | .word _, h => h.2.2.1
  | .node _ _, h => ⟨h.1.2.1, Thg.NcL.pl h.2.2⟩
theorem Thg.NcL.pl : ∀ {ts : List Thg}, Thg.NcL W ts → Thg.PlL ts
  | [], _ => trivial
  | _ :: _, h => ⟨Thg.Nc.pl h.1, Thg.NcL.pl h.2⟩
end
mutual
theorem Thg.Nc.sm : ∀ {t : Thg}, t.Nc W → t.Sm
  | .num _, h => h
  | .word _, h => h.2.2.2
  | .node _ _, h => ⟨h.1.2.2, Thg.NcL.sm h.2.2⟩
theorem Thg.NcL.sm : ∀ {ts : List Thg}, Thg.NcL W ts → Thg.SmL ts
  | [], _ => trivial
  | _ :: _, h => ⟨Thg.Nc.sm h.1, Thg.NcL.sm h.2⟩
end
mutual
theorem Thg.Nc.imp {W' : Str → Prop} (k : ∀ s, W s → W' s) : ∀ {t : Thg}, t.Nc W → t.Nc W'
  | .num _, h => h
  | .word _, h => ⟨k _ h.1, h.2⟩
  | .node _ _, h => ⟨h.1, h.2.1, Thg.NcL.imp k h.2.2⟩
theorem Thg.NcL.imp {W' : Str → Prop} (k : ∀ s, W s → W' s) : ∀ {ts : List Thg}, Thg.NcL W ts → Thg.NcL W' ts
  | [], _ => trivial
  | _ :: _, h => ⟨Thg.Nc.imp k h.1, Thg.NcL.imp k h.2⟩
end
theorem leafy_no {h : Str} (a : h ≠ "?") (b : h ≠ "~") : Thg.leafy h = false := by simp [Thg.leafy, a, b]
mutual
theorem Thg.Nc.sub (hf : ∀ n t, f n = some t → t.Nc W) : ∀ {t : Thg}, t.Nc W → (Thg.sub f t).Nc W
  | .num _, h => h
  | .word _, h => h
  | .node k xs, h => by
    simp only [Thg.sub]
    split
    · split
      · rename_i n
        cases e : f n with
        | none => exact h
        | some t => exact hf n t e
      · exact h
    · split
      · exact h
      · rename_i h1 h2
        exact ⟨h.1, (fun z => by rw [leafy_no h1 h2] at z; cases z), Thg.NcL.sub hf h.2.2⟩
theorem Thg.NcL.sub (hf : ∀ n t, f n = some t → t.Nc W) : ∀ {ts : List Thg}, Thg.NcL W ts → Thg.NcL W (Thg.subL f ts)
  | [], _ => trivial
  | _ :: _, h => ⟨Thg.Nc.sub hf h.1, Thg.NcL.sub hf h.2⟩
end
mutual
theorem Thg.sz_pos : ∀ t : Thg, 1 ≤ t.sz
  | .num _ => Nat.le_refl _
  | .word _ => Nat.le_refl _
  | .node _ _ => by simp [Thg.sz]
end
/-- how great what is filled is -/
theorem sub_arith {a M s : Nat} (hM : 2 ≤ M) (h : 2 * a ≤ s * M) : 2 * (a + 1) ≤ (s + 1) * M := by
  have e : (s + 1) * M = s * M + M := Nat.succ_mul s M
  omega
mutual
theorem Thg.sub_sz {M : Nat} (hM : 2 ≤ M) (hf : ∀ n t, f n = some t → t.sz ≤ M) : ∀ t : Thg, 2 * (Thg.sub f t).sz ≤ t.sz * M
  | .num _ => by simp only [Thg.sub, Thg.sz]; omega
  | .word _ => by simp only [Thg.sub, Thg.sz]; omega
  | .node k xs => by
    have same : 2 * (Thg.node k xs).sz ≤ (Thg.node k xs).sz * M := by
      rw [Nat.mul_comm]
      exact Nat.mul_le_mul_left _ hM
    simp only [Thg.sub]
    split
    · split
      · rename_i n
        cases e : f n with
        | none => exact same
        | some t =>
          have := hf n t e
          show 2 * t.sz ≤ _
          simp only [Thg.sz, Thg.szL]
          omega
      · exact same
    · split
      · exact same
      · exact sub_arith hM (Thg.subL_sz hM hf xs)
theorem Thg.subL_sz {M : Nat} (hM : 2 ≤ M) (hf : ∀ n t, f n = some t → t.sz ≤ M) : ∀ ts : List Thg, 2 * Thg.szL (Thg.subL f ts) ≤ Thg.szL ts * M
  | [] => by simp [Thg.subL, Thg.szL]
  | t :: ts => by
    have a := Thg.sub_sz hM hf t
    have b := Thg.subL_sz hM hf ts
    simp only [Thg.subL, Thg.szL]
    rw [Nat.add_mul]
    omega
end
mutual
theorem Thg.sub_dp {M : Nat} (hf : ∀ n t, f n = some t → t.dp ≤ M) : ∀ t : Thg, (Thg.sub f t).dp ≤ t.dp + M
  | .num _ => by simp [Thg.sub, Thg.dp]
  | .word _ => by simp [Thg.sub, Thg.dp]
  | .node k xs => by
    have same : (Thg.node k xs).dp ≤ (Thg.node k xs).dp + M := by omega
    simp only [Thg.sub]
    split
    · split
      · rename_i n
        cases e : f n with
        | none => exact same
        | some t =>
          have := hf n t e
          show t.dp ≤ _
          omega
      · exact same
    · split
      · exact same
      · have := Thg.subL_dp hf xs
        simp only [Thg.dp]
        omega
theorem Thg.subL_dp {M : Nat} (hf : ∀ n t, f n = some t → t.dp ≤ M) : ∀ ts : List Thg, Thg.dpL (Thg.subL f ts) ≤ Thg.dpL ts + M
  | [] => by simp [Thg.subL, Thg.dpL]
  | t :: ts => by
    have a := Thg.sub_dp hf t
    have b := Thg.subL_dp hf ts
    simp only [Thg.subL, Thg.dpL]
    omega
end
mutual
theorem Thg.pre_sz : ∀ t : Thg, t.pre.length ≤ t.sz
  | .num _ => by simp [Thg.pre, Thg.sz]
  | .word _ => by simp [Thg.pre, Thg.sz]
  | .node k xs => by
    have := Thg.preL_sz xs
    simp only [Thg.pre, Thg.sz]
    split
    · simp
    · simp only [List.length_cons]
      omega
theorem Thg.preL_sz : ∀ ts : List Thg, (Thg.preL ts).length ≤ Thg.szL ts
  | [] => by simp [Thg.preL, Thg.szL]
  | t :: ts => by
    have a := Thg.pre_sz t
    have b := Thg.preL_sz ts
    simp only [Thg.preL, Thg.szL, List.length_append]
    omega
end
theorem szL_le {M : Nat} : ∀ {ts : List Thg}, (∀ t ∈ ts, t.sz ≤ M) → Thg.szL ts ≤ M * ts.length
  | [], _ => by simp [Thg.szL]
  | t :: ts, h => by
    have a := h t List.mem_cons_self
    have b := szL_le (ts := ts) fun u hu => h u (List.mem_cons_of_mem _ hu)
    simp only [Thg.szL, List.length_cons]
    rw [Nat.mul_add, Nat.mul_one]
    omega
theorem dpL_le {M : Nat} : ∀ {ts : List Thg}, (∀ t ∈ ts, t.dp ≤ M) → Thg.dpL ts ≤ M
  | [], _ => by simp [Thg.dpL]
  | t :: ts, h => by
    have a := h t List.mem_cons_self
    have b := dpL_le (ts := ts) fun u hu => h u (List.mem_cons_of_mem _ hu)
    simp only [Thg.dpL]
    omega
/-- two at once: unknowns counted twice are within the size -/
theorem Thg.unk_node {k : Str} {xs : List Thg} : Thg.unkL [Thg.node k xs] = (match (Thg.node k xs).unk with | some n => [n] | none => []) ++ Thg.unkL (Thg.node k xs).kids := by
  unfold Thg.unkL
  rw [Thg.preL, Thg.preL, List.append_nil, Thg.pre_eq, List.filterMap_cons]
  cases (Thg.node k xs).unk <;> rfl
/-- the unknowns of a nice thing -/
theorem Thg.Nc.unk_node {k : Str} {xs : List Thg} (h : (Thg.node k xs).Nc W) : (k = "?" ∧ ∃ n : Int, xs = [.num n] ∧ 0 ≤ n ∧ n < 1000 ∧ Thg.unkL [Thg.node k xs] = [n]) ∨ (k = "~" ∧ Thg.unkL [Thg.node k xs] = []) ∨ (k ≠ "?" ∧ k ≠ "~" ∧ Thg.unkL [Thg.node k xs] = Thg.unkL xs) := by
  by_cases e1 : k = "?"
  · obtain ⟨n, e, hn⟩ := h.2.1 (by rw [e1]; rfl)
    subst e1 e
    refine .inl ⟨rfl, n, rfl, (hn rfl).1, (hn rfl).2, ?_⟩
    simp [Thg.unkL, Thg.preL, Thg.pre, Thg.unk, Thg.leafy]
  · by_cases e2 : k = "~"
    · obtain ⟨n, e, _⟩ := h.2.1 (by rw [e2]; rfl)
      subst e2 e
      refine .inr (.inl ⟨rfl, ?_⟩)
      simp [Thg.unkL, Thg.preL, Thg.pre, Thg.unk, Thg.leafy, e1]
    · refine .inr (.inr ⟨e1, e2, ?_⟩)
      have hl := leafy_no e1 e2
      have ho : (Thg.node k xs).unk = none := Thg.unk_closed (by simpa [Thg.isO] using e1)
      rw [Thg.unk_node, ho]
      simp [Thg.kids, hl]
theorem Thg.unkL_cons (t : Thg) (ts : List Thg) : Thg.unkL (t :: ts) = Thg.unkL [t] ++ Thg.unkL ts := Thg.unkL_app [t] ts
mutual
theorem Thg.Nc.unk_bd : ∀ {t : Thg}, t.Nc W → ∀ n ∈ Thg.unkL [t], 0 ≤ n ∧ n < 1000
  | .num _, _, n, h => by simp [Thg.unkL, Thg.preL, Thg.pre, Thg.unk] at h
  | .word _, _, n, h => by simp [Thg.unkL, Thg.preL, Thg.pre, Thg.unk] at h
  | .node k xs, hn, n, h => by
    rcases hn.unk_node with ⟨_, m, _, m0, m1, e⟩ | ⟨_, e⟩ | ⟨_, _, e⟩
    · rw [e] at h
      rw [List.mem_singleton.mp h]
      exact ⟨m0, m1⟩
    · rw [e] at h
      cases h
    · rw [e] at h
      exact Thg.NcL.unk_bd hn.2.2 n h
theorem Thg.NcL.unk_bd : ∀ {ts : List Thg}, Thg.NcL W ts → ∀ n ∈ Thg.unkL ts, 0 ≤ n ∧ n < 1000
  | [], _, n, h => by simp [Thg.unkL, Thg.preL] at h
  | t :: ts, hn, n, h => by
    rw [Thg.unkL_cons] at h
    rcases List.mem_append.mp h with e | e
    · exact Thg.Nc.unk_bd hn.1 n e
    · exact Thg.NcL.unk_bd hn.2 n e
end
mutual
theorem Thg.Nc.unk_sz : ∀ {t : Thg}, t.Nc W → 2 * (Thg.unkL [t]).length ≤ t.sz
  | .num i, _ => by
    have e : Thg.unkL [.num i] = [] := by simp [Thg.unkL, Thg.preL, Thg.pre, Thg.unk]
    rw [e]
    simp
  | .word s, _ => by
    have e : Thg.unkL [.word s] = [] := by simp [Thg.unkL, Thg.preL, Thg.pre, Thg.unk]
    rw [e]
    simp
  | .node k xs, hn => by
    rcases hn.unk_node with ⟨_, m, ex, m0, m1, e⟩ | ⟨_, e⟩ | ⟨_, _, e⟩
    · rw [e, ex]
      simp [Thg.sz, Thg.szL]
    · rw [e]
      simp
    · rw [e]
      have := Thg.NcL.unk_sz hn.2.2
      simp only [Thg.sz]
      omega
theorem Thg.NcL.unk_sz : ∀ {ts : List Thg}, Thg.NcL W ts → 2 * (Thg.unkL ts).length ≤ Thg.szL ts
  | [], _ => by simp [Thg.unkL, Thg.preL]
  | t :: ts, hn => by
    have a := Thg.Nc.unk_sz hn.1
    have b := Thg.NcL.unk_sz hn.2
    rw [Thg.unkL_cons, List.length_append]
    simp only [Thg.szL]
    omega
end
mutual
/-- what is put for an unknown is no greater than the whole -/
theorem Thg.sub_part : ∀ {t : Thg}, t.Nc W → ∀ n ∈ Thg.unkL [t], ∀ u, f n = some u → u.sz ≤ (Thg.sub f t).sz ∧ u.dp ≤ (Thg.sub f t).dp
  | .num _, _, n, h, _, _ => by simp [Thg.unkL, Thg.preL, Thg.pre, Thg.unk] at h
  | .word _, _, n, h, _, _ => by simp [Thg.unkL, Thg.preL, Thg.pre, Thg.unk] at h
  | .node k xs, hn, n, h, u, hu => by
    rcases hn.unk_node with ⟨ek, m, ex, m0, m1, e⟩ | ⟨_, e⟩ | ⟨h1, h2, e⟩
    · rw [e] at h
      have em := List.mem_singleton.mp h
      subst em ex ek
      simp [Thg.sub, hu]
    · rw [e] at h
      cases h
    · rw [e] at h
      obtain ⟨a, b⟩ := Thg.subL_part hn.2.2 n h u hu
      simp only [Thg.sub, h1, h2, if_false, Thg.sz, Thg.dp]
      omega
theorem Thg.subL_part : ∀ {ts : List Thg}, Thg.NcL W ts → ∀ n ∈ Thg.unkL ts, ∀ u, f n = some u → u.sz ≤ Thg.szL (Thg.subL f ts) ∧ u.dp ≤ Thg.dpL (Thg.subL f ts)
  | [], _, n, h, _, _ => by simp [Thg.unkL, Thg.preL] at h
  | t :: ts, hn, n, h, u, hu => by
    rw [Thg.unkL_cons] at h
    simp only [Thg.subL, Thg.szL, Thg.dpL]
    rcases List.mem_append.mp h with e | e
    · obtain ⟨a, b⟩ := Thg.sub_part hn.1 n e u hu
      omega
    · obtain ⟨a, b⟩ := Thg.subL_part hn.2 n e u hu
      omega
end
mutual
/-- what is put for an unknown is nice if the whole is -/
theorem Thg.sub_in : ∀ {t : Thg}, t.Nc W → ∀ n ∈ Thg.unkL [t], ∀ u, f n = some u → (Thg.sub f t).Nc W → u.Nc W
  | .num _, _, n, h, _, _, _ => by simp [Thg.unkL, Thg.preL, Thg.pre, Thg.unk] at h
  | .word _, _, n, h, _, _, _ => by simp [Thg.unkL, Thg.preL, Thg.pre, Thg.unk] at h
  | .node k xs, hn, n, h, u, hu, hs => by
    rcases hn.unk_node with ⟨ek, m, ex, m0, m1, e⟩ | ⟨_, e⟩ | ⟨h1, h2, e⟩
    · rw [e] at h
      have em := List.mem_singleton.mp h
      subst em ex ek
      simpa [Thg.sub, hu] using hs
    · rw [e] at h
      cases h
    · rw [e] at h
      simp only [Thg.sub, h1, h2, if_false] at hs
      exact Thg.subL_in hn.2.2 n h u hu hs.2.2
theorem Thg.subL_in : ∀ {ts : List Thg}, Thg.NcL W ts → ∀ n ∈ Thg.unkL ts, ∀ u, f n = some u → Thg.NcL W (Thg.subL f ts) → u.Nc W
  | [], _, n, h, _, _, _ => by simp [Thg.unkL, Thg.preL] at h
  | t :: ts, hn, n, h, u, hu, hs => by
    rw [Thg.unkL_cons] at h
    rcases List.mem_append.mp h with e | e
    · exact Thg.sub_in hn.1 n e u hu hs.1
    · exact Thg.subL_in hn.2 n e u hu hs.2
end
theorem Thg.unk_self (n : Int) : Thg.unkL [.node "?" [.num n]] = [n] := by simp [Thg.unkL, Thg.preL, Thg.pre, Thg.unk, Thg.leafy]
mutual
/-- fillings that are alike at the unknowns -/
theorem Thg.sub_cong {f g : Int → Option Thg} : ∀ (t : Thg), (∀ n ∈ Thg.unkL [t], f n = g n) → Thg.sub f t = Thg.sub g t
  | .num _, _ => rfl
  | .word _, _ => rfl
  | .node k xs, h => by
    simp only [Thg.sub]
    by_cases h1 : k = "?"
    · simp only [h1, if_true]
      split
      · rename_i n
        rw [h1] at h
        rw [h n (by rw [Thg.unk_self]; exact List.mem_singleton.mpr rfl)]
      · rfl
    · simp only [h1, if_false]
      by_cases h2 : k = "~"
      · simp only [h2, if_true]
      · simp only [h2, if_false]
        have hl := leafy_no h1 h2
        rw [Thg.subL_cong xs fun n hn => h n (by
          rw [Thg.unk_node, Thg.unk_closed (by simpa [Thg.isO] using h1)]
          simpa [Thg.kids, hl] using hn)]
theorem Thg.subL_cong {f g : Int → Option Thg} : ∀ (ts : List Thg), (∀ n ∈ Thg.unkL ts, f n = g n) → Thg.subL f ts = Thg.subL g ts
  | [], _ => rfl
  | t :: ts, h => by
    simp only [Thg.subL]
    rw [Thg.sub_cong t fun n hn => h n (by rw [Thg.unkL_cons]; exact List.mem_append_left _ hn), Thg.subL_cong ts fun n hn => h n (by rw [Thg.unkL_cons]; exact List.mem_append_right _ hn)]
end
/-- an unlike list out of another one is no longer -/
theorem nodup_le {α : Type} : ∀ (l D : List α), l.Nodup → (∀ x ∈ l, x ∈ D) → l.length ≤ D.length
  | [], _, _, _ => Nat.zero_le _
  | x :: l, D, hn, hs => by
    obtain ⟨h1, h2⟩ := List.nodup_cons.mp hn
    obtain ⟨A, B, rfl⟩ := List.append_of_mem (hs x List.mem_cons_self)
    have ih := nodup_le l (A ++ B) h2 fun y hy => by
      have hne : y ≠ x := fun e => h1 (e ▸ hy)
      rcases List.mem_append.mp (hs y (List.mem_cons_of_mem _ hy)) with q | q
      · exact List.mem_append_left _ q
      · rcases List.mem_cons.mp q with r | r
        · exact absurd r hne
        · exact List.mem_append_right _ r
    simp only [List.length_append, List.length_cons] at ih ⊢
    omega
end
end LL
set_option maxHeartbeats 4000000
/-! Demands, turned and moved by the law. -/
namespace K10
open PySem PySem.Spec PyProof.Rows L2 Evl LL
/-- both or either -/
def mkD : Bool → Dm → Dm → Dm
  | true, x, y => .both x y
  | false, x, y => .either x y
def hdOf : Bool → Str
  | true => "both"
  | false => "either"
theorem hdOf_ne (b : Bool) : V.str (hdOf b) ≠ .str "claim" := by cases b <;> decide
theorem mkD_deep (b : Bool) (x y : Dm) : (mkD b x y).deep = max x.deep y.deep + 1 := by cases b <;> rfl
theorem mkD_sat (b : Bool) (x y : Dm) (S : Str × Int → Prop) : (mkD b x y).Sat S ↔ if b = true then x.Sat S ∧ y.Sat S else x.Sat S ∨ y.Sat S := by cases b <;> simp [mkD, Dm.Sat]
theorem mkD_over (b : Bool) (x y : Dm) (ps : Pool) : (mkD b x y).Over ps ↔ x.Over ps ∧ y.Over ps := by cases b <;> exact Iff.rfl
theorem Dv.mk {H : Hp} {a : Addr} {u v : V} {x y : Dm} (b : Bool) (h : H a = some (.tup [.str (hdOf b), u, v])) (hx : Dv H u x) (hy : Dv H v y) : Dv H (.ref a) (mkD b x y) := by
  cases b
  · exact .either h hx hy
  · exact .both h hx hy
theorem Dv.cases2 {H : Hp} {v : V} {D : Dm} (h : Dv H v D) : (∃ (a : Addr) (nm : Str) (n : Int), v = .ref a ∧ D = .claim nm n ∧ H a = some (.tup [.str "claim", .str nm, .int n])) ∨ ∃ (a : Addr) (b : Bool) (u1 u2 : V) (x y : Dm), v = .ref a ∧ D = mkD b x y ∧ H a = some (.tup [.str (hdOf b), u1, u2]) ∧ Dv H u1 x ∧ Dv H u2 y := by
  cases h with
  | @claim a nm n h => exact .inl ⟨a, nm, n, rfl, rfl, h⟩
  | @both a u1 u2 x y h hx hy => exact .inr ⟨a, true, u1, u2, x, y, rfl, rfl, h, hx, hy⟩
  | @either a u1 u2 x y h hx hy => exact .inr ⟨a, false, u1, u2, x, y, rfl, rfl, h, hx, hy⟩
theorem Dm.deep_pos (d : Dm) : 1 ≤ d.deep := by cases d <;> simp [Dm.deep]
def spDeep (d : Nat) : Sp := fun vs H Q _ => ∃ (v : V) (D : Dm), vs = [v] ∧ Dv H v D ∧ D.deep ≤ d ∧ ∀ H', Ex H H' → Q (.int ((D.deep : Nat) : Int)) H'
structure Fdd (P : Program) (w : World) (K : PySem.W.Frag) (mg : Str → Option Value) (base : Heap) (d : Nat) : Prop where
  max : mg "max" = none
  h_law_demand_deep : Has P w K mg base CX0 "_law_demand_deep" d ["demand"] (spDeep d)
section
variable {P : Program} {w : World} {K : PySem.W.Frag} {mg : Str → Option Value} {base : Heap} {f : Addr} {fd : FuncData}
theorem scDeep : FnScope ["demand"] ["demand"] (defScope (top 13)) := ⟨rfl, rfl, rfl, by decide +kernel, rfl, by decide +kernel, by decide +kernel⟩
theorem ok_deep (d : Nat) (F : FnT K "_law_demand_deep" (top 13) f fd) (T : Fdd P w K mg base d) : FnOk P w K mg base CX0 (d + 1) f fd ["demand"] (spDeep (d + 1)) := by
  have sc := scDeep
  refine F.ok scDeep (fun vs H Q E h => ?_) (fun cdv A outer s H vs Q E hr h => ?_)
  · obtain ⟨_, _, rfl, _⟩ := h
    rfl
  refine ⟨_, PSs.nox (pss_cons (ps_if (pt_cmpR op_eq (pe_ix ix_tup (pv 0) pe_int (fun _ _ => rfl)) pe_str (nomark _)) (pss_one (ps_ret pe_int)) pss_nil)
      (pss_one (ps_ret (pe_op op_add pe_int (pe_callB (call_max2 rfl) (by rfl) T.max (by decide +kernel) (pa_cons (pe_callH (hj := by omega) T.h_law_demand_deep hr pass0 (pa_cons (pe_ix ix_tup (pv 0) pe_int (fun _ _ => rfl)) pa_nil)) (pa_cons (pe_callH (hj := by omega) T.h_law_demand_deep hr pass0 (pa_cons (pe_ix ix_tup (pv 0) pe_int (fun _ _ => rfl)) pa_nil)) pa_nil))))))), ?_⟩
  obtain ⟨v, D, rfl, hv, hd, k⟩ := h
  rcases hv.cases2 with ⟨a, nm, n, rfl, rfl, h⟩ | ⟨a, b, u1, u2, x, y, rfl, rfl, h, hx, hy⟩
  · exact q_when (b := true) (et_is (et_test (ev_op (ev_op (ev_var rfl) ev_c (rv_ixT (st_of h) (atI_nat (j := 0) rfl))) ev_c (rv_eq rfl))) (by simp)) (fun _ H2 e2 => s_ret ev_c fun H3 e3 => k H3 (e2.trans e3)) (fun z => nomatch z)
  · rw [mkD_deep] at hd k
    refine q_when (b := false) (et_is (et_test (ev_op (ev_op (ev_var rfl) ev_c (rv_ixT (st_of h) (atI_nat (j := 0) rfl))) ev_c (rv_eq rfl))) (decide_eq_false (hdOf_ne b))) (fun z => nomatch z) (fun _ H2 e2 => ?_)
    refine ⟨_, rfl, a, _, 1, u1, rfl, rfl, st_of (e2 _ _ h), atI_nat (j := 1) rfl, u1, x, rfl, hx.mono (TupEx.of e2), by omega, fun H3 e3 => ?_⟩
    have e23 := e2.trans e3
    refine ⟨_, rfl, a, _, 2, u2, rfl, rfl, st_of (e23 _ _ h), atI_nat (j := 2) rfl, u2, y, rfl, hy.mono (TupEx.of e23), by omega, fun H4 e4 => ⟨_, _, rfl, _, _, rfl, rfl, ?_⟩⟩
    have e := k H4 (e23.trans e4)
    have z : (1 : Int) + (if ((y.deep : Nat) : Int) > ((x.deep : Nat) : Int) then ((y.deep : Nat) : Int) else ((x.deep : Nat) : Int)) = ((max x.deep y.deep + 1 : Nat) : Int) := by split <;> omega
    rw [← z] at e
    exact e
theorem deep_all (F : FnT K "_law_demand_deep" (top 13) f fd) (zs : mg "max" = none) (hm : mg "_law_demand_deep" = some (.ref f)) (hk : PySem.W.keepIn K (.ref f) = true) (hb : Binds K fd ["demand"] []) : ∀ d, FnOk P w K mg base CX0 d f fd ["demand"] (spDeep d)
  | 0 => ⟨fun vs H Q E h => by obtain ⟨_, _, rfl, _⟩ := h; rfl, fun A outer s H args us vs Q E hr he hbb hv h => by
    obtain ⟨_, D, _, _, h2, _⟩ := h
    have := D.deep_pos
    omega⟩
  | d + 1 => ok_deep d F ⟨zs, ⟨f, fd, hm, hk, hb, deep_all F zs hm hk hb d⟩⟩
end
def spTurned (d : Nat) : Sp := fun vs H Q _ => ∃ (l c : Addr) (v : V) (D : Dm), vs = [.ref l, v] ∧ HandC H l c ∧ Dv H v D ∧ D.deep ≤ d ∧ ∀ v' D' H', Exl l H H' → HandC H' l c → Dv H' v' D' → D'.deep = D.deep → (∀ ps, D.Over ps → D'.Over ps) → (∀ S, D'.Sat S ↔ D.Sat S) → Q v' H'
structure Ftu (P : Program) (w : World) (K : PySem.W.Frag) (mg : Str → Option Value) (base : Heap) (d : Nat) : Prop where
  h_law_draw : Has P w K mg base CX0 "_law_draw" 1 ["hand", "many"] spDraw
  h_law_turned : Has P w K mg base CX0 "_law_turned" (d + 1) ["hand", "demand"] (spTurned d)
section
variable {P : Program} {w : World} {K : PySem.W.Frag} {mg : Str → Option Value} {base : Heap} {f : Addr} {fd : FuncData}
theorem scTurned : FnScope ["hand", "demand", "one", "other"] ["hand", "demand"] (defScope (top 15)) := ⟨rfl, rfl, rfl, by decide +kernel, rfl, by decide +kernel, by decide +kernel⟩
theorem ok_turned (d : Nat) (F : FnT K "_law_turned" (top 15) f fd) (T : Ftu P w K mg base d) : FnOk P w K mg base CX0 (d + 2) f fd ["hand", "demand"] (spTurned (d + 1)) := by
  have sc := scTurned
  refine F.ok scTurned (fun vs H Q E h => ?_) (fun cdv A outer s H vs Q E hr h => ?_)
  · obtain ⟨_, _, _, _, rfl, _⟩ := h
    rfl
  refine ⟨_, PSs.nox (pss_cons (ps_if (pt_cmpR op_eq (pe_ix ix_tup (pv 1) pe_int (fun _ _ => rfl)) pe_str (nomark _)) (pss_one (ps_ret (pv 1))) pss_nil)
      (pss_cons (ps_par (i := 2) (j := 3) (by rfl) sc.nd rfl rfl (by decide) rfl rfl (pa_cons (pe_callH (hj := by omega) T.h_law_turned hr pass0 (pa_cons (pv 0) (pa_cons (pe_ix ix_tup (pv 1) pe_int (fun _ _ => rfl)) pa_nil))) (pa_cons (pe_callH (hj := by omega) T.h_law_turned hr pass0 (pa_cons (pv 0) (pa_cons (pe_ix ix_tup (pv 1) pe_int (fun _ _ => rfl)) pa_nil))) pa_nil)) (by rfl))
      (pss_one (ps_ret (pe_ifExp (pt_cmpR op_eq (pe_callH (hj := by omega) T.h_law_draw hr pass0 (pa_cons (pv 0) (pa_cons pe_int pa_nil))) pe_int (nomark _)) (pe_tup (pa_cons (pe_ix ix_tup (pv 1) pe_int (fun _ _ => rfl)) (pa_cons (pv 3) (pa_cons (pv 2) pa_nil)))) (pe_tup (pa_cons (pe_ix ix_tup (pv 1) pe_int (fun _ _ => rfl)) (pa_cons (pv 2) (pa_cons (pv 3) pa_nil))))))))), ?_⟩
  obtain ⟨l, c, v, D, rfl, hh, hv, hd, k⟩ := h
  rcases hv.cases2 with ⟨a, nm, n, rfl, rfl, h⟩ | ⟨a, b, u1, u2, x, y, rfl, rfl, h, hx, hy⟩
  · exact q_when (b := true) (et_is (et_test (ev_op (ev_op (ev_var rfl) ev_c (rv_ixT (st_of h) (atI_nat (j := 0) rfl))) ev_c (rv_eq rfl))) (by simp)) (fun _ H2 e2 => s_ret (ev_var rfl) fun H3 e3 => k _ _ H3 (Exl.of (e2.trans e3)) (hh.mono (e2.trans e3)) (hv.mono (TupEx.of (e2.trans e3))) rfl (fun _ h => h) fun _ => Iff.rfl) (fun z => nomatch z)
  · rw [mkD_deep] at hd k
    refine q_when (b := false) (et_is (et_test (ev_op (ev_op (ev_var rfl) ev_c (rv_ixT (st_of h) (atI_nat (j := 0) rfl))) ev_c (rv_eq rfl))) (decide_eq_false (hdOf_ne b))) (fun z => nomatch z) (fun _ H2 e2 => ?_)
    refine ⟨_, rfl, _, rfl, a, _, 1, u1, rfl, rfl, st_of (e2 _ _ h), atI_nat (j := 1) rfl, l, c, u1, x, rfl, hh.mono e2, hx.mono (TupEx.of e2), by omega, fun v1 D1 H3 x3 hh3 dv1 dp1 ov1 sa1 => ?_⟩
    have x23 := (Exl.of (l := l) e2).trans x3
    have t3 := exl_tup hh x23
    refine ⟨_, rfl, _, rfl, a, _, 2, u2, rfl, rfl, st_of (t3 _ _ h), atI_nat (j := 2) rfl, l, c, u2, y, rfl, hh3, hy.mono t3, by omega, fun v2 D2 H4 x4 hh4 dv2 dp2 ov2 sa2 => ⟨_, _, rfl, ?_⟩⟩
    have x24 := x23.trans x4
    dsimp only
    have dv1 := dv1.mono (exl_tup hh3 x4)
    refine ⟨_, rfl, l, c, 2, rfl, by decide, by decide, hh4, fun f1 H5 g0 g1 x5 hh5 => ⟨rfl, _, rfl, ?_⟩⟩
    have x25 := x24.trans x5
    have h5 := exl_tup hh x25 _ _ h
    have dv1 := dv1.mono (exl_tup hh4 x5)
    have dv2 := dv2.mono (exl_tup hh4 x5)
    dsimp only
    by_cases hf : f1 = 0
    · rw [if_pos (by simp [hf])]
      refine ⟨_, rfl, a, _, 0, .str (hdOf b), rfl, rfl, st_of h5, atI_nat (j := 0) rfl, _, rfl, _, rfl, by show 3 ≤ sizeLine; decide, fun p hp => ?_⟩
      have e := Ex.new (o := .tup [.str (hdOf b), v2, v1]) hp
      exact k _ (mkD b D2 D1) _ (x25.trans (Exl.of e)) (hh5.mono e) (.mk b upd_same (dv2.mono (TupEx.of e)) (dv1.mono (TupEx.of e))) (by rw [mkD_deep]; omega) (fun ps o => (mkD_over _ _ _ _).mpr ⟨ov2 ps ((mkD_over _ _ _ _).mp o).2, ov1 ps ((mkD_over _ _ _ _).mp o).1⟩) fun S => by rw [mkD_sat, mkD_sat, sa1, sa2, and_comm, or_comm]
    · rw [if_neg (by simp [hf])]
      refine ⟨_, rfl, a, _, 0, .str (hdOf b), rfl, rfl, st_of h5, atI_nat (j := 0) rfl, _, rfl, _, rfl, by show 3 ≤ sizeLine; decide, fun p hp => ?_⟩
      have e := Ex.new (o := .tup [.str (hdOf b), v1, v2]) hp
      exact k _ (mkD b D1 D2) _ (x25.trans (Exl.of e)) (hh5.mono e) (.mk b upd_same (dv1.mono (TupEx.of e)) (dv2.mono (TupEx.of e))) (by rw [mkD_deep]; omega) (fun ps o => (mkD_over _ _ _ _).mpr ⟨ov1 ps ((mkD_over _ _ _ _).mp o).1, ov2 ps ((mkD_over _ _ _ _).mp o).2⟩) fun S => by rw [mkD_sat, mkD_sat, sa1, sa2]
theorem turned_all (F : FnT K "_law_turned" (top 15) f fd) (h4 : Has P w K mg base CX0 "_law_draw" 1 ["hand", "many"] spDraw) (hm : mg "_law_turned" = some (.ref f)) (hk : PySem.W.keepIn K (.ref f) = true) (hb : Binds K fd ["hand", "demand"] []) : ∀ d, FnOk P w K mg base CX0 (d + 1) f fd ["hand", "demand"] (spTurned d)
  | 0 => ⟨fun vs H Q E h => by obtain ⟨_, _, _, _, rfl, _⟩ := h; rfl, fun A outer s H args us vs Q E hr he hbb hv h => by
    obtain ⟨_, _, _, D, _, _, _, h2, _⟩ := h
    have := D.deep_pos
    omega⟩
  | d + 1 => ok_turned d F ⟨h4, ⟨f, fd, hm, hk, hb, turned_all F h4 hm hk hb d⟩⟩
end
/-- a pool of claims -/
structure Po (l : Addr) (H : Hp) (p : Addr) (zs : List V) (ps : Pool) : Prop where
  ne : p ≠ l
  at_ : H p = some (.lst zs)
  all_ : All2 (ps.map IsPl) zs H
  n0 : zs ≠ []
  few : ps.length ≤ 8
  nm : ∀ x ∈ ps, WordOk x.1 ∧ x.2.natAbs < 10 ^ 30
theorem Po.mono {l : Addr} {H H' : Hp} {p : Addr} {zs : List V} {ps : Pool} (e : Exl l H H') (t : TupEx H H') (h : Po l H p zs ps) : Po l H' p zs ps := ⟨h.ne, e _ _ h.ne h.at_, All2.monT pool_monT t h.all_, h.n0, h.few, h.nm⟩
theorem Po.lz {l : Addr} {H : Hp} {p : Addr} {zs : List V} {ps : Pool} (h : Po l H p zs ps) : zs.length ≤ 8 := by
  have := h.all_.len
  rw [List.length_map] at this
  have := h.few
  omega
end K10
set_option maxHeartbeats 4000000
/-! How long a dict's text is; a dict of things as a datum; repr of data told by relations. -/
namespace LL
open PySem PySem.Spec PyProof.Rows L2 Evl
theorem Lim.dict {n i j N : Nat} {kvs : List (PyData × PyData)} (h : ∀ p ∈ kvs, Lim n i p.1 ∧ Lim n j p.2) (hN : kvs.length ≤ N) : Lim (n + 1) ((i + j + 4) * N + 2) (.dict kvs) := by
  have a1 : PyData.showableKv kvs = true ∧ PyData.depthKv kvs ≤ n ∧ (∀ t ∈ PyData.shownKv kvs, t.length ≤ i + j + 2) ∧ (PyData.shownKv kvs).length = kvs.length := by
    clear hN
    induction kvs with
    | nil => exact ⟨by simp only [PyData.showableKv], by simp only [PyData.depthKv]; omega, by rw [PyData.shownKv_nil]; nofun, by rw [PyData.shownKv_nil]; rfl⟩
    | cons p kvs ih =>
      obtain ⟨k, v⟩ := p
      obtain ⟨h1, h2, h3, h4⟩ := ih fun q hq => h q (List.mem_cons_of_mem _ hq)
      obtain ⟨g1, g2⟩ := h (k, v) List.mem_cons_self
      refine ⟨by simp only [PyData.showableKv, g1.sh, g2.sh, h1, Bool.and_self], by simp only [PyData.depthKv]; have g1d : k.depth ≤ n := g1.dp; have g2d : v.depth ≤ n := g2.dp; omega, ?_, ?_⟩
      · rw [PyData.shownKv_cons]
        intro t ht
        rcases List.mem_cons.mp ht with e | e
        · rw [e, slen, slen]
          have e4 : (": " : Str).length = 2 := by decide
          have b1 := g1.ln
          have b2 := g2.ln
          rw [e4]
          show k.shown.length + 2 + v.shown.length ≤ _
          have b1 : k.shown.length ≤ i := b1
          have b2 : v.shown.length ≤ j := b2
          omega
        · exact h3 t e
      · rw [PyData.shownKv_cons, List.length_cons, h4]
        rfl
  obtain ⟨h1, h2, h3, h4⟩ := a1
  refine ⟨by simp only [PyData.showable, h1], by simp only [PyData.depth]; omega, ?_⟩
  rw [PyData.shown_dict, slen, slen]
  have e1 : ("{" : Str).length = 1 := by decide
  have e2 : ("}" : Str).length = 1 := by decide
  rw [e1, e2]
  have := join_len h3
  rw [h4] at this
  have a2 : (i + j + 4) * kvs.length ≤ (i + j + 4) * N := Nat.mul_le_mul_left _ hN
  have a3 : i + j + 2 + 2 = i + j + 4 := rfl
  rw [a3] at this
  omega
/-- a datum, apart from l -/
def IsD (l : Addr) (D : PyData) (v : V) (H : Hp) : Prop := Dz l H v D
theorem IsD.mono {l : Addr} {D : PyData} {v : V} {H H' : Hp} (e : Ex H H') (h : IsD l D v H) : IsD l D v H' := Dz.mono (Exl.of e) h
theorem pow30b {i : Int} (h : i.natAbs < 10 ^ 30) : Lim 0 31 (.int i) := lim_num h
/-- a dict that keeps things -/
theorem dz_dict {l g : Addr} {H : Hp} {kvs : List (Key × V)} {f : Int → Option Thg} {N Z : Nat} (hl : ∀ xs, H l ≠ some (.tup xs)) (gl : g ≠ l) (hg : H g = some (.dK kvs)) (hf : ∀ n : Int, ∀ v, valV kvs (.inl n) = some v → ∃ t, f n = some t ∧ Tv H v t) (key : KeyI kvs)
    (hs : ∀ p ∈ kvs, ∀ n, p.1 = Sum.inl n → n.natAbs < 10 ^ 30) (ft : ∀ n t, f n = some t → t.Sm ∧ t.dp ≤ 220 ∧ t.sz ≤ Z) (hN : kvs.length ≤ N) : ∃ D, Dz l H (.ref g) (.dict D) ∧ Lim 221 ((31 + 40 * Z + 4) * N + 2) (.dict D) := by
  have go : ∀ kv : List (Key × V), (∀ p ∈ kv, p ∈ kvs) → ∃ ds, Dzs l H (kv.map (·.2)) ds ∧ ∀ p ∈ (kv.map fun p => kD p.1).zip ds, Lim 220 31 p.1 ∧ Lim 220 (40 * Z) p.2 := by
    intro kv
    induction kv with
    | nil => exact fun _ => ⟨[], .nil, by simp⟩
    | cons p kv ih =>
      intro h
      obtain ⟨ds, h1, h2⟩ := ih fun q hq => h q (List.mem_cons_of_mem _ hq)
      have hp := h p List.mem_cons_self
      obtain ⟨n, en⟩ := key.2 p hp
      have hv : valV kvs (.inl n) = some p.2 := by
        have nd := key.1
        clear ih h1 h2 h hN hs hg hf
        induction kvs with
        | nil => cases hp
        | cons q kvs ih =>
          unfold valV
          rw [List.find?_cons]
          rcases List.mem_cons.mp hp with e | e
          · rw [← e, en]
            simp
          · rw [List.map_cons, List.nodup_cons] at nd
            have nq : ¬ q.1 = Sum.inl n := fun z => nd.1 (by rw [z, ← en]; exact List.mem_map.mpr ⟨p, e, rfl⟩)
            rw [decide_eq_false nq]
            exact ih ⟨nd.2, fun r hr => key.2 r (List.mem_cons_of_mem _ hr)⟩ e nd.2
      obtain ⟨t, ft1, tv⟩ := hf n p.2 hv
      obtain ⟨sm, dp, sz⟩ := ft n t ft1
      refine ⟨t.dT :: ds, .cons (tv.dz hl) h1, fun q hq => ?_⟩
      rcases List.mem_cons.mp hq with e | e
      · rw [e]
        show Lim 220 31 (kD p.1) ∧ Lim 220 (40 * Z) t.dT
        rw [en]
        exact ⟨(lim_num (hs p hp n en)).mono (Nat.zero_le _) (Nat.le_refl _), (Thg.lim sm).mono dp (by omega)⟩
      · exact h2 q e
  obtain ⟨ds, h1, h2⟩ := go kvs fun _ h => h
  refine ⟨_, .dic gl hg h1, Lim.dict h2 ?_⟩
  rw [List.length_zip, List.length_map]
  exact Nat.le_trans (Nat.min_le_left _ _) hN
end LL
set_option maxHeartbeats 4000000
/-! Defs by their names, at callers outside of any repr. -/
namespace LL
open PySem PySem.Spec PyProof.Rows L2
def HasG (P : Program) (w : World) (K : PySem.W.Frag) (mg : Str → Option Value) (base : Heap) (CX : CXT) (x : Str) (k : Nat) (ps : List Str) (sp : Sp) : Prop :=
  ∃ f fd, mg x = some (.ref f) ∧ PySem.W.keepIn K (.ref f) = true ∧ Binds K fd ps [] ∧ FnG P w K mg base CX k f fd ps sp
theorem FnG.mono {P : Program} {w : World} {K : PySem.W.Frag} {mg : Str → Option Value} {base : Heap} {CX : CXT} {j k : Nat} {f : Addr} {fd : FuncData} {ps : List Str} {sp : Sp} (F : FnG P w K mg base CX j f fd ps sp) (h : j ≤ k) : FnG P w K mg base CX k f fd ps sp :=
  ⟨F.many, fun hg hr => F.go hg (hr.mono h)⟩
theorem Has.g {P : Program} {w : World} {K : PySem.W.Frag} {mg : Str → Option Value} {base : Heap} {CX : CXT} {x : Str} {k : Nat} {ps : List Str} {sp : Sp} (h : Has P w K mg base CX x k ps sp) : HasG P w K mg base CX x k ps sp := by
  obtain ⟨f, fd, a, b, c, F⟩ := h
  exact ⟨f, fd, a, b, c, FnG.of F⟩
section
variable {X : Cx} {CX : CXT} {x : Str} {j k : Nat} {ps : List Str} {sp : Sp} {E : XK} {p pos : Pos} {e : Expr} {es : List Expr} {ta : TA}
theorem pe_callHG (h : HasG X.prog X.w X.K X.mg X.base CX x k ps sp) (hG : X.A.guards = some []) (hr : Room j X.A) (hx : Passes CX X E) (ha : PA X (e :: es) ta) (hj : k ≤ j := by decide) (hg : Gl X x := by rfl) (hdb : (x == ("__debug__" : Str)) = false := by decide)
    (he : starEach (e :: es) X.env = (false, eval e X.env) :: starEach es X.env := by rfl) (hpl : (backTo pos (starEach es X.env)).any (·.1) = false := by rfl) : PE X (.Call (.Name x p) (e :: es) [] pos) (tCall sp [] E ta) := by
  obtain ⟨f, fd, hm, hk, hb, F⟩ := h
  exact pe_callG F hG (hr.mono hj) hg hm hk hb hx ha hdb he hpl
end
end LL
set_option maxHeartbeats 4000000
/-! repr of data told by what they are; of flags; texts in lists of texts. -/
namespace LL
open PySem PySem.Spec PyProof.Rows L2 Evl
/-- repr(b), b a flag -/
def rReprB : List V → Hp → VK → Prop := fun xs H Q => ∃ b : Bool, xs = [.bl b] ∧ Q (.str (if b then "True" else "False")) H
theorem call_reprB {X : Cx} : CallR X (.builtin "repr") rReprB := by
  intro pins s σ H xs us Q I r h
  obtain ⟨b, rfl, q⟩ := h
  obtain ⟨u, rfl, r1⟩ := vals1 r
  cases (show u = Value.bool b from r1)
  exact P.repr_of_bool ⟨.str _, H, I.tok _, ⟨_, rfl⟩, q⟩
theorem repB_inj {a b : Bool} (h : V.str (if a then "True" else "False") = V.str (if b then "True" else "False")) : a = b := by
  cases a <;> cases b <;> first | rfl | exact absurd (V.str.inj h) (by decide)
section
variable {σ : L2.St} {H : Hp} {te : TE} {v : V} {l : Addr} {D : PyData} {n k i j m : Nat} {R : VP}
def Apart (l : Addr) (H : Hp) : Prop := ∃ o, H l = some o ∧ ∀ xs, o ≠ .tup xs
theorem Apart.mono {H' : Hp} (h : Apart l H) (e : Ex H H') : Apart l H' := by
  obtain ⟨o, h1, h2⟩ := h
  exact ⟨o, e _ _ h1, h2⟩
theorem Apart.nt (h : Apart l H) : ∀ xs, H l ≠ some (.tup xs) := fun xs z => by
  obtain ⟨o, h1, h2⟩ := h
  rw [h1] at z
  exact h2 xs (Option.some.inj z)
theorem Apart.new (h : Apart l H) {p : Addr} (hp : H p = none) : p ≠ l := fun z => by
  obtain ⟨o, h1, _⟩ := h
  rw [z, h1] at hp
  cases hp
/-- repr of a datum told by what it is -/
theorem ev_rpD (hl : Apart l H) (h : EvX te σ H R) (hR : ∀ v H', Ex H H' → (∀ xs, H' l ≠ some (.tup xs)) → R v H' → Dz l H' v D) (nb : notNB D = true) (L : Lim n k D) (hn : n ≤ 250) (hk : k ≤ 16777216) : Ev (tCB rReprD (tCons te tNil)) σ H (.str D.shown) := fun H1 e Q q =>
  h H1 e _ fun v H2 e2 r => ⟨l, v, D, rfl, hR v H2 (e.trans e2) (hl.mono (e.trans e2)).nt r, nb, L.sh, Nat.le_trans L.dp hn, Nat.le_trans L.ln (by rw [sizeLine_eq]; exact hk), q H2 e2⟩
/-- three slots as a datum -/
theorem x_slots3 {d1 d2 d3 : PyData} {u w : V} (h1 : σ[i]? = some (some v)) (h2 : σ[j]? = some (some u)) (h3 : σ[m]? = some (some w)) (hl : Apart l H) (a : Dz l H v d1) (b : Dz l H u d2) (c : Dz l H w d3) : EvX (tTup (tCons (tVar i) (tCons (tVar j) (tCons (tVar m) tNil)))) σ H (fun x H' => Dz l H' x (.tuple [d1, d2, d3])) := fun H1 e Q q =>
  ⟨v, h1, u, h2, w, h3, by show 3 ≤ sizeLine; decide, fun p hp => by
    have ex := e.trans (Ex.new (o := .tup [v, u, w]) hp)
    exact q _ _ (Ex.new hp) (.tup ((hl.mono e).new hp) upd_same (.cons (a.mono (Exl.of ex)) (.cons (b.mono (Exl.of ex)) (.cons (c.mono (Exl.of ex)) .nil))))⟩
end
theorem inV_strs (s : Str) (ss : List Str) : inV (.str s) (ss.map V.str) = decide (s ∈ ss) := by
  unfold inV
  induction ss with
  | nil => simp
  | cons x ss ih =>
    rw [List.map_cons, List.any_cons, ih]
    by_cases e : s = x
    · subst e
      simp [eqV]
    · have e2 : ¬ x = s := fun z => e z.symm
      simp [eqV, e, e2]
theorem flat_strs' (ss : List Str) : (ss.map V.str).all flatV = true := by
  rw [List.all_map]
  exact List.all_eq_true.mpr fun _ _ => rfl
theorem Lim.tuple3 {n i j k : Nat} {a b c : PyData} (ha : Lim n i a) (hb : Lim n j b) (hc : Lim n k c) : Lim (n + 1) ((i + j + k + 2) * 3 + 3) (.tuple [a, b, c]) := by
  refine Lim.tuple (xs := [a, b, c]) (k := i + j + k) fun x hx => ?_
  simp only [List.mem_cons, List.not_mem_nil, or_false] at hx
  rcases hx with rfl | rfl | rfl
  · exact ha.mono (Nat.le_refl _) (by omega)
  · exact hb.mono (Nat.le_refl _) (by omega)
  · exact hc.mono (Nat.le_refl _) (by omega)
end LL
set_option maxHeartbeats 2000000
/-! Demands as data. -/
namespace K10
open PySem PySem.Spec PyProof.Rows L2 Evl LL
mutual
def Dm.dat : Dm → PyData
  | .claim nm n => .tuple [.str "claim", .str nm, .int n]
  | .both a b => .tuple [.str "both", a.dat, b.dat]
  | .either a b => .tuple [.str "either", a.dat, b.dat]
end
def datO : Option Dm → PyData
  | none => .none
  | some d => d.dat
theorem Dv.dz {l : Addr} {H : Hp} (hl : Apart l H) {v : V} {d : Dm} (h : Dv H v d) : Dz l H v d.dat := by
  have ne : ∀ {a : Addr} {xs : List V}, H a = some (.tup xs) → a ≠ l := fun h z => hl.nt _ (by rw [← z]; exact h)
  induction h with
  | claim h => unfold Dm.dat; exact .tup (ne h) h (.cons (.str _) (.cons (.str _) (.cons (.int _) .nil)))
  | both h _ _ i1 i2 => unfold Dm.dat; exact .tup (ne h) h (.cons (.str _) (.cons i1 (.cons i2 .nil)))
  | either h _ _ i1 i2 => unfold Dm.dat; exact .tup (ne h) h (.cons (.str _) (.cons i1 (.cons i2 .nil)))
theorem IsDO.dz {l : Addr} {H : Hp} (hl : Apart l H) {v : V} : ∀ {o : Option Dm}, IsDO o v H → Dz l H v (datO o)
  | none, h => by cases (show v = .non from h); exact .non
  | some _, h => Dv.dz hl h
def limK : Nat → Nat
  | 0 => 31
  | n + 1 => (limK n + limK n + 30 + 2) * 3 + 3
def ClNm (d : Dm) : Prop := ∀ x ∈ d.cl, WordOk x.1 ∧ x.2.natAbs < 10 ^ 30
theorem Dm.lim : ∀ (n : Nat) (d : Dm), d.deep ≤ n → ClNm d → Lim n (limK n) d.dat
  | 0, .claim _ _, h, _ => by cases h
  | 0, .both _ _, h, _ => by cases h
  | 0, .either _ _, h, _ => by cases h
  | n + 1, .claim nm k, _, h => by
    obtain ⟨h1, h2⟩ := h (nm, k) (by simp [Dm.cl])
    have a : Lim n 30 (.str "claim") := (Lim.str (by decide +kernel)).mono (Nat.zero_le _) (Nat.le_refl _)
    have b : Lim n (limK n) (.str nm) := (Lim.str h1.2.2).mono (Nat.zero_le _) (by cases n <;> simp only [limK] <;> omega)
    have c : Lim n (limK n) (.int k) := (lim_num h2).mono (Nat.zero_le _) (by cases n <;> simp only [limK] <;> omega)
    exact (Lim.tuple3 a b c).mono (Nat.le_refl _) (by simp only [limK]; omega)
  | n + 1, .both x y, hd, h => by
    have hd : max x.deep y.deep + 1 ≤ n + 1 := hd
    have a : Lim n 30 (.str "both") := (Lim.str (by decide +kernel)).mono (Nat.zero_le _) (Nat.le_refl _)
    have b := Dm.lim n x (by omega) fun z hz => h z (List.mem_append_left _ hz)
    have c := Dm.lim n y (by omega) fun z hz => h z (List.mem_append_right _ hz)
    exact (Lim.tuple3 a b c).mono (Nat.le_refl _) (by simp only [limK]; omega)
  | n + 1, .either x y, hd, h => by
    have hd : max x.deep y.deep + 1 ≤ n + 1 := hd
    have a : Lim n 30 (.str "either") := (Lim.str (by decide +kernel)).mono (Nat.zero_le _) (Nat.le_refl _)
    have b := Dm.lim n x (by omega) fun z hz => h z (List.mem_append_left _ hz)
    have c := Dm.lim n y (by omega) fun z hz => h z (List.mem_append_right _ hz)
    exact (Lim.tuple3 a b c).mono (Nat.le_refl _) (by simp only [limK]; omega)
theorem Dv.dp {K : PySem.W.Frag} {H : Hp} {v : V} {d : Dm} (h : Dv H v d) : Dp K H v d.dat := by
  induction h with
  | claim h => unfold Dm.dat; exact .tup (st_of h) (.cons (.str _) (.cons (.str _) (.cons (.int _) .nil)))
  | both h _ _ i1 i2 => unfold Dm.dat; exact .tup (st_of h) (.cons (.str _) (.cons i1 (.cons i2 .nil)))
  | either h _ _ i1 i2 => unfold Dm.dat; exact .tup (st_of h) (.cons (.str _) (.cons i1 (.cons i2 .nil)))
theorem Dm.lay : ∀ d : Dm, (∀ x ∈ d.cl, PyData.strOk x.1 = true) → d.dat.canLay0 = true ∧ d.dat.depth ≤ d.deep
  | .claim nm n, h => by
    have z := h (nm, n) (by simp [Dm.cl])
    have z1 : PyData.strOk (Str.ofString "claim") = true := by decide +kernel
    simp [Dm.dat, PyData.canLay0, PyData.canLayAll0, PyData.depth, PyData.depthAll, z, z1, Dm.deep]
  | .both a b, h => by
    have x := Dm.lay a fun z hz => h z (List.mem_append_left _ hz)
    have y := Dm.lay b fun z hz => h z (List.mem_append_right _ hz)
    have z1 : PyData.strOk (Str.ofString "both") = true := by decide +kernel
    simp only [Dm.dat, PyData.canLay0, PyData.canLayAll0, PyData.depth, PyData.depthAll, x.1, y.1, z1, Dm.deep]
    exact ⟨rfl, by have := x.2; have := y.2; omega⟩
  | .either a b, h => by
    have x := Dm.lay a fun z hz => h z (List.mem_append_left _ hz)
    have y := Dm.lay b fun z hz => h z (List.mem_append_right _ hz)
    have z1 : PyData.strOk (Str.ofString "either") = true := by decide +kernel
    simp only [Dm.dat, PyData.canLay0, PyData.canLayAll0, PyData.depth, PyData.depthAll, x.1, y.1, z1, Dm.deep]
    exact ⟨rfl, by have := x.2; have := y.2; omega⟩
theorem Dm.shaped {d : Dm} (h : ∀ x ∈ d.cl, PyData.strOk x.1 = true) (hd : d.deep ≤ 60) : SeqAt.shaped d.dat = true := by
  obtain ⟨a, b⟩ := d.lay h
  simp only [SeqAt.shaped, a, Bool.true_and]
  exact decide_eq_true (by omega)
theorem Dm.eqv_self {d : Dm} (h : ∀ x ∈ d.cl, PyData.strOk x.1 = true) : PyData.eqv d.dat d.dat = true := SeqAt.eqv_refl _ (d.lay h).1
end K10
set_option maxHeartbeats 4000000
/-! The law's own lots; whether one implies the other, by all lots. -/
namespace K10
open PySem PySem.Spec PyProof.Rows L2 Evl LL
/-- all lots of these claims -/
def lotsOf (cs : Pool) : List Lot := cs.foldl (fun L c => L ++ L.map (· ++ [c])) [[]]
theorem lotsOf_snoc (cs : Pool) (c : Str × Int) : lotsOf (cs ++ [c]) = lotsOf cs ++ (lotsOf cs).map (· ++ [c]) := by unfold lotsOf; rw [List.foldl_append]; rfl
theorem snoc_ind {α : Type} {p : List α → Prop} (h0 : p []) (hs : ∀ xs x, p xs → p (xs ++ [x])) (xs : List α) : p xs := by
  have : ∀ ys : List α, p ys.reverse := fun ys => by
    induction ys with
    | nil => exact h0
    | cons y ys ih => rw [List.reverse_cons]; exact hs _ _ ih
  simpa using this xs.reverse
theorem lots_len (cs : Pool) : (lotsOf cs).length = 2 ^ cs.length := by
  refine snoc_ind (p := fun cs => (lotsOf cs).length = 2 ^ cs.length) rfl (fun xs x ih => ?_) cs
  rw [lotsOf_snoc, List.length_append, List.length_map, ih, List.length_append, List.length_singleton, Nat.pow_succ]
  omega
theorem lots_sub (cs : Pool) : ∀ a ∈ lotsOf cs, (∀ z ∈ a, z ∈ cs) ∧ a.length ≤ cs.length := by
  refine snoc_ind (p := fun cs => ∀ a ∈ lotsOf cs, (∀ z ∈ a, z ∈ cs) ∧ a.length ≤ cs.length) ?_ (fun xs x ih => ?_) cs
  · intro a ha
    have : a = [] := List.mem_singleton.mp ha
    subst this
    exact ⟨(fun _ h => nomatch h), Nat.le_refl _⟩
  · intro a ha
    rw [lotsOf_snoc] at ha
    rw [List.length_append, List.length_singleton]
    rcases List.mem_append.mp ha with h | h
    · exact ⟨fun z hz => List.mem_append_left _ ((ih a h).1 z hz), by have := (ih a h).2; omega⟩
    · obtain ⟨b, hb, rfl⟩ := List.mem_map.mp h
      refine ⟨fun z hz => ?_, by rw [List.length_append, List.length_singleton]; have := (ih b hb).2; omega⟩
      rcases List.mem_append.mp hz with k | k
      · exact List.mem_append_left _ ((ih b hb).1 z k)
      · exact List.mem_append_right _ k
/-- whatever holds of these claims, there is its lot -/
theorem lots_all (cs : Pool) (S : Str × Int → Prop) : ∃ a ∈ lotsOf cs, ∀ z, z ∈ a ↔ z ∈ cs ∧ S z := by
  refine snoc_ind (p := fun cs => ∃ a ∈ lotsOf cs, ∀ z, z ∈ a ↔ z ∈ cs ∧ S z) ?_ (fun xs x ih => ?_) cs
  · exact ⟨[], List.mem_singleton.mpr rfl, fun z => by simp⟩
  · obtain ⟨a, ha, h⟩ := ih
    rw [lotsOf_snoc]
    rcases Classical.em (S x) with hx | hx
    · refine ⟨a ++ [x], List.mem_append_right _ (List.mem_map.mpr ⟨a, ha, rfl⟩), fun z => ?_⟩
      simp only [List.mem_append, List.mem_singleton, h]
      constructor
      · rintro (⟨h1, h2⟩ | rfl)
        · exact ⟨.inl h1, h2⟩
        · exact ⟨.inr rfl, hx⟩
      · rintro ⟨h1 | h1, h2⟩
        · exact .inl ⟨h1, h2⟩
        · exact .inr h1
    · refine ⟨a, List.mem_append_left _ ha, fun z => ?_⟩
      simp only [List.mem_append, List.mem_singleton, h]
      constructor
      · rintro ⟨h1, h2⟩
        exact ⟨.inl h1, h2⟩
      · rintro ⟨h1 | h1, h2⟩
        · exact ⟨h1, h2⟩
        · rw [h1] at h2
          exact absurd h2 hx
def spLots : Sp := fun vs H Q _ => ∃ (p : Addr) (us : List V) (cs : Pool), vs = [.ref p] ∧ H p = some (.lst us) ∧ All2 (cs.map IsPl) us H ∧ cs.length ≤ 8 ∧ ∀ q ws H', Ex H H' → H q = none → H' q = some (.lst ws) → All2 ((lotsOf cs).map IsLot) ws H' → Q (.ref q) H'
section
variable {P : Program} {w : World} {K : PySem.W.Frag} {mg : Str → Option Value} {base : Heap} {f : Addr} {fd : FuncData}
theorem scLots : FnScope ["things", "found", "one", "lot"] ["things"] (defScope (top 18)) := ⟨rfl, rfl, rfl, by decide +kernel, rfl, by decide +kernel, by decide +kernel⟩
theorem ok_lots (F : FnT K "_law_lots" (top 18) f fd) : FnOk P w K mg base CX0 1 f fd ["things"] spLots := by
  have sc := scLots
  refine F.ok scLots (fun vs H Q E h => ?_) (fun cdv A outer s H vs Q E hr h => ?_)
  · obtain ⟨_, _, _, rfl, _⟩ := h
    rfl
  refine ⟨_, PSs.nox (pss_cons (ps_set (i := 1) sc.nd rfl (Or.inl rfl) (pe_lst (pa_cons (pe_tup pa_nil) pa_nil)))
      (pss_cons (ps_for PassesOwn.never rfl (pi_list (pv 0)) (pg_name (i := 2) sc.nd rfl (Or.inr rfl)) (pss_one (ps_set (i := 1) sc.nd rfl (Or.inl rfl) (pe_op op_cat (pv 1) (pe_lc (own := [("lot", 3)]) (tt := tYes) rfl sc.nd (pi_list (pv 1)) (blkOk_by (N := ["things", "found", "one", "lot"]) (sc := defScope (top 18)) (by decide +kernel)) (fun _ _ _ _ _ => (pg_name (i := 3) sc.nd rfl (Or.inl rfl))) (fun _ _ _ _ _ => pts_nil) (fun _ _ _ _ _ => (pe_op (op_catAK rfl) (pv 3) (pe_tup (pa_cons (pv 2) pa_nil)))))))))
      (pss_one (ps_ret (pv 1))))), ?_⟩
  obtain ⟨p, us, cs, rfl, hp, al, few, k⟩ := h
  have lu := al.len
  rw [List.length_map] at lu
  refine q_asgQ ?_
  refine ⟨by show 0 ≤ sizeLine; decide, fun tp htp => ⟨by show 1 ≤ sizeLine; decide, fun q0 hq0 => ?_⟩⟩
  have e1 := Ex.new (o := .tup []) htp
  have e2 := Ex.new (o := .lst [.ref tp]) hq0
  have e12 := e1.trans e2
  have st : ∃ ws, L2.upd (L2.upd H tp (.tup [])) q0 (.lst [.ref tp]) q0 = some (.lst ws) ∧ All2 ((lotsOf []).map IsLot) ws (L2.upd (L2.upd H tp (.tup [])) q0 (.lst [.ref tp])) := ⟨_, upd_same, .cons ⟨tp, [], rfl, e2 _ _ upd_same, .nil⟩ .nil⟩
  have n0 : H q0 = none := fresh_back e1 hq0
  revert e12 st
  generalize L2.upd (L2.upd H tp (.tup [])) q0 (.lst [.ref tp]) = H2
  intro e12 st
  dsimp only
  refine ⟨_, rfl, p, rfl, ⟨_, sq_of (e12 _ _ hp)⟩, for_it (walk_list (xs := us)) (fun i σ' H' => ∃ (q : Addr) (ws : List V) (x2 x3 : Option V), σ' = [some (.ref p), some (.ref q), x2, x3] ∧ H q = none ∧ H' q = some (.lst ws) ∧ All2 ((lotsOf (cs.take i)).map IsLot) ws H' ∧ Ex H H') ?_ ?_ ?_ ?_⟩
  · obtain ⟨ws, h1, h2⟩ := st
    exact ⟨q0, ws, _, _, rfl, n0, h1, h2, e12⟩
  · rintro i σ' H' hi ⟨_, _, _, _, _, _, _, _, e⟩
    exact sq_of (e _ _ hp)
  · rintro i x σ' H' H'' hi ⟨q, ws, x2, x3, rfl, nq, hq, aw, ex⟩ ⟨rfl, hx⟩
    obtain ⟨R, hR, rr⟩ := all2_get al hx
    rw [List.getElem?_map] at hR
    obtain ⟨c, hc, rfl⟩ := Option.map_eq_some_iff.mp hR
    obtain ⟨t, rfl, ht⟩ := IsPl.monT _ _ _ (TupEx.of ex) rr
    have lw := aw.len
    rw [List.length_map, lots_len, List.length_take] at lw
    have lw : ws.length ≤ 256 := by
      rw [← lw]
      have : 2 ^ min i cs.length ≤ 2 ^ 8 := Nat.pow_le_pow_right (by decide) (by omega)
      omega
    refine s_asgQ ?_
    refine ⟨_, rfl, _, rfl, q, rfl, ⟨_, sq_of hq⟩, fun Dl hD => ?_⟩
    have eD := Ex.new (o := .lst []) hD
    refine lcJ (walk_list (xs := ws)) (fun j ys G => All2 (((lotsOf (cs.take i)).take j).map (fun a => IsLot (a ++ [c]))) ys G ∧ Ex H'' G) ?_ (fun j ys G _ ⟨_, e⟩ => sq_of (e _ _ hq)) ?_ ?_
    · exact ⟨.nil, eD⟩
    · rintro j y ys G G' hj ly hDl ⟨al2, ey⟩ ⟨rfl, hy⟩
      obtain ⟨R, hR, r2⟩ := all2_get aw hy
      rw [List.getElem?_map] at hR
      obtain ⟨a, ha, rfl⟩ := Option.map_eq_some_iff.mp hR
      obtain ⟨r, vs, rfl, hr, av⟩ := IsLot.monT _ _ _ (TupEx.of ey) r2
      have la := av.len
      rw [List.length_map] at la
      have sm := (lots_sub _ a (List.mem_of_getElem? ha)).2
      rw [List.length_take] at sm
      refine ⟨rfl, ?_⟩
      have fin : ∀ (G2 : Hp) (r2 : Addr), Ex G' G2 → IsLot (a ++ [c]) (.ref r2) G2 → NxL Dl (fun j ys G => All2 (((lotsOf (cs.take i)).take j).map (fun a => IsLot (a ++ [c]))) ys G ∧ Ex H'' G) j (.ref r2) G2 := fun G2 r2 e2 is => by
        have hz := e2 _ _ hDl
        have t4 := TupEx.lst (ys := ys ++ [.ref r2]) hz
        refine NxL.of ly (by omega) hz ⟨?_, (ey.trans e2).mut hD⟩
        rw [take_snoc ha, List.map_append]
        refine All2.app (All2.monT (fun R hR => ?_) ((TupEx.of e2).trans t4) al2) (.cons (IsLot.monT _ _ _ t4 is) .nil)
        obtain ⟨b, _, rfl⟩ := List.mem_map.mp hR
        exact IsLot.monT
      refine ⟨_, rfl, _, rfl, by show 1 ≤ sizeLine; decide, fun tq htq => ?_⟩
      have e3 := Ex.new (o := .tup [.ref t]) htq
      refine ⟨r, tq, vs, [.ref t], rfl, rfl, st_of (e3 _ _ hr), st_of upd_same, sz_of (by simp only [List.length_singleton]; omega), (fun z => ?_), (fun _ z => nomatch z), (fun _ _ l hl => ?_)⟩
      · refine fin _ tq e3 ⟨tq, [.ref t], rfl, upd_same, ?_⟩
        rw [z] at la
        rw [List.length_eq_zero_iff.mp la]
        exact .cons ⟨t, rfl, (ey.trans e3) _ _ ht⟩ .nil
      · have e4 := Ex.new (o := .tup (vs ++ [.ref t])) hl
        refine fin _ l (e3.trans e4) ⟨l, _, rfl, upd_same, ?_⟩
        rw [List.map_append]
        exact All2.app (All2.monT pool_monT (TupEx.of (e3.trans e4)) av) (.cons ⟨t, rfl, ((ey.trans e3).trans e4) _ _ ht⟩ .nil)
    · rintro ys G ly hDl ⟨al2, ey⟩
      have l2 := al2.len
      have lw2 := aw.len
      rw [List.length_map] at lw2
      rw [← lw2, List.take_length] at al2
      have hqD : Dl ≠ q := fun z => by rw [z, hq] at hD; cases hD
      refine ⟨q, Dl, ws, ys, rfl, rfl, ey _ _ hq, hDl, sz_of (by omega), fun r hr => ?_⟩
      have e5 := Ex.new (o := .lst (ws ++ ys)) hr
      refine ⟨r, ws ++ ys, _, _, rfl, fresh_back (ex.trans ey) hr, upd_same, ?_, (ex.trans ey).trans e5⟩
      rw [take_snoc hc, lotsOf_snoc, List.map_append, List.map_map]
      refine All2.app (All2.monT lots_monT (TupEx.of (ey.trans e5)) aw) (All2.monT (fun R hR => ?_) (TupEx.of e5) al2)
      obtain ⟨b, _, rfl⟩ := List.mem_map.mp hR
      exact IsLot.monT
  · rintro σ' H' ⟨q, ws, x2, x3, rfl, nq, hq, aw, ex⟩
    rw [← lu, List.take_length] at aw
    exact s_ret (ev_var rfl) fun H5 e5 => k q ws H5 (ex.trans e5) nq (e5 _ _ hq) (All2.monT lots_monT (TupEx.of e5) aw)
end
end K10
set_option maxHeartbeats 4000000
/-! The least lots of a demand are settled. -/
namespace K10
open PySem PySem.Spec PyProof.Rows L2 Evl LL
/-- a least lot that is enough -/
def MinLot (o : Option Dm) (a : Lot) : Prop := ClOk a ∧ SatO (· ∈ a) o ∧ ∀ b, ClOk b → (∀ z ∈ b, z ∈ a) → SatO (· ∈ b) o → b = a
theorem Gd.mem {L : List Lot} {o : Option Dm} (h : Gd L o) {a : Lot} : a ∈ L ↔ MinLot o a := by
  constructor
  · intro ha
    refine ⟨h.cl a ha, (h.sat _).mpr ⟨a, ha, fun _ hz => hz⟩, fun b hb sub sat => ?_⟩
    obtain ⟨c, hc, f⟩ := (h.sat _).mp sat
    have e := h.mini a ha c hc fun z hz => sub z (f z hz)
    subst e
    exact hb.uniq (h.cl c hc) fun z => ⟨sub z, f z⟩
  · rintro ⟨ok, sat, least⟩
    obtain ⟨c, hc, f⟩ := (h.sat _).mp sat
    have e := least c (h.cl c hc) f ((h.sat _).mpr ⟨c, hc, fun _ hz => hz⟩)
    rw [← e]
    exact hc
theorem ClOk.sub {a cs : Lot} (h : ClOk cs) (s : a.Sublist cs) : ClOk a := ⟨h.nd.sublist s, h.asc.sublist s⟩
theorem MinLot.in_ {o : Option Dm} {a : Lot} (h : MinLot o a) : ∀ z ∈ a, z ∈ clO o := fun z hz => by
  have c : SatO (· ∈ a) o ↔ SatO (· ∈ a.filter fun z => decide (z ∈ clO o)) o := satO_cong o fun z hz => by
    rw [List.mem_filter]
    exact ⟨fun k => ⟨k, decide_eq_true hz⟩, fun k => k.1⟩
  have e := h.2.2 (a.filter fun z => decide (z ∈ clO o)) (h.1.sub List.filter_sublist) (fun z hz => (List.mem_filter.mp hz).1) (c.mp h.2.1)
  rw [← e] at hz
  exact of_decide_eq_true (List.mem_filter.mp hz).2
theorem MinLot.cong {o o' : Option Dm} (h : ∀ S, SatO S o ↔ SatO S o') {a : Lot} : MinLot o a ↔ MinLot o' a := by
  unfold MinLot
  rw [h]
  simp only [h]
/-- settled -/
theorem min_uniq {o o' : Option Dm} {L M : List Lot} (hL : LsOk L) (hM : LsOk M) (mL : ∀ a, a ∈ L ↔ MinLot o a) (mM : ∀ a, a ∈ M ↔ MinLot o' a) (h : ∀ S, SatO S o ↔ SatO S o') : L = M :=
  hL.uniq hM fun a => (mL a).trans ((MinLot.cong h).trans (mM a).symm)
theorem lots_sublist (cs : Pool) : ∀ a ∈ lotsOf cs, a.Sublist cs := by
  refine snoc_ind (p := fun cs => ∀ a ∈ lotsOf cs, a.Sublist cs) ?_ (fun xs x ih => ?_) cs
  · intro a ha
    rw [List.mem_singleton.mp ha]
    exact List.Sublist.refl _
  · intro a ha
    rw [lotsOf_snoc] at ha
    rcases List.mem_append.mp ha with h | h
    · exact (ih a h).trans (List.sublist_append_left _ _)
    · obtain ⟨b, hb, rfl⟩ := List.mem_map.mp h
      exact (ih b hb).append (List.Sublist.refl _)
theorem lots_has {cs b : Pool} (ok : ClOk cs) (hb : ClOk b) (sub : ∀ z ∈ b, z ∈ cs) : b ∈ lotsOf cs := by
  obtain ⟨a, ha, h⟩ := lots_all cs (· ∈ b)
  have e : a = b := (ok.sub (lots_sublist cs a ha)).uniq hb fun z => (h z).trans ⟨fun k => k.2, fun k => ⟨sub z k, k⟩⟩
  rw [← e]
  exact ha
theorem lots_nodup (cs : Pool) : cs.Nodup → (lotsOf cs).Nodup := by
  refine snoc_ind (p := fun cs => cs.Nodup → (lotsOf cs).Nodup) (fun _ => by decide) (fun xs x ih nd => ?_) cs
  rw [List.nodup_append] at nd
  have ih := ih nd.1
  rw [lotsOf_snoc, List.nodup_append]
  refine ⟨ih, List.pairwise_map.mpr (ih.imp fun {a b} ne e => ne (List.append_cancel_right e)), fun a ha b hb e => ?_⟩
  obtain ⟨c, hc, rfl⟩ := List.mem_map.mp hb
  have hx : x ∈ xs := (lots_sub xs a ha).1 x (by rw [e]; exact List.mem_append_right _ (List.mem_singleton.mpr rfl))
  exact nd.2.2 x hx x (List.mem_singleton.mpr rfl) rfl
/-- shorter and within another one -/
def below (b a : Lot) : Bool := decide (b.length < a.length) && decide (∀ z ∈ b, z ∈ a)
/-- the lots of all that are enough, without those that another one is below -/
theorem min_of {o : Option Dm} {cs : Pool} {E M : List Lot} (ok : ClOk cs) (hc : ∀ z ∈ clO o, z ∈ cs) (hE : ∀ a, a ∈ E ↔ a ∈ lotsOf cs ∧ SatO (· ∈ a) o) (hM : ∀ a, a ∈ M ↔ a ∈ E ∧ (E.any fun b => below b a) = false) : ∀ a, a ∈ M ↔ MinLot o a := fun a => by
  rw [hM, hE]
  constructor
  · rintro ⟨⟨ha, sat⟩, no⟩
    have oa := ok.sub (lots_sublist cs a ha)
    refine ⟨oa, sat, fun b hb sub sb => ?_⟩
    have bE : b ∈ E := (hE b).mpr ⟨lots_has ok hb fun z hz => (lots_sub cs a ha).1 z (sub z hz), sb⟩
    have nb : below b a = false := by
      cases hbb : below b a with
      | false => rfl
      | true =>
        have : (E.any fun b => below b a) = true := List.any_eq_true.mpr ⟨b, bE, hbb⟩
        rw [no] at this
        cases this
    have le := nodup_leD b a hb.nd sub
    have nlt : ¬ b.length < a.length := fun lt => by
      unfold below at nb
      rw [decide_eq_true lt, decide_eq_true sub] at nb
      cases nb
    refine hb.uniq oa fun z => ⟨sub z, fun hz => ?_⟩
    rcases Classical.em (z ∈ b) with k | k
    · exact k
    · have := nodup_leD (z :: b) a (List.nodup_cons.mpr ⟨k, hb.nd⟩) fun y hy => by
        rcases List.mem_cons.mp hy with e | e
        · rw [e]; exact hz
        · exact sub y e
      rw [List.length_cons] at this
      omega
  · intro h
    refine ⟨⟨lots_has ok h.1 fun z hz => hc z (h.in_ z hz), h.2.1⟩, ?_⟩
    cases hb : E.any fun b => below b a with
    | false => rfl
    | true =>
      obtain ⟨b, bE, k⟩ := List.any_eq_true.mp hb
      unfold below at k
      rw [Bool.and_eq_true] at k
      have lt := of_decide_eq_true k.1
      have sub := of_decide_eq_true k.2
      have bb := (hE b).mp bE
      have e := h.2.2 b (ok.sub (lots_sublist cs b bb.1)) sub bb.2
      rw [e] at lt
      omega
end K10
set_option maxHeartbeats 4000000
/-! The law's own neat. -/
namespace K10
open PySem PySem.Spec PyProof.Rows L2 Evl LL
theorem call_lenQ {X : Cx} {K : PySem.W.Frag} (hK : X.K = K) : CallR X (.builtin "len") (fun xs H Q => ∃ x n, xs = [x] ∧ LenV K x H n ∧ Q (.int n) H) := by
  subst hK
  exact call_len
noncomputable def satB (o : Option Dm) (a : Lot) : Bool := @decide (SatO (· ∈ a) o) (Classical.propDecidable _)
theorem satB_true {o : Option Dm} {a : Lot} : satB o a = true ↔ SatO (· ∈ a) o := @decide_eq_true_iff _ (Classical.propDecidable _)
theorem satB_iff {o : Option Dm} {a : Lot} {r : Bool} (h : r = true ↔ OnO a o) : r = satB o a := Bool.eq_iff_iff.mpr (h.trans ((onO_sat a o).trans satB_true.symm))
theorem filt_snoc {α : Type} {xs : List α} {i : Nat} {x : α} (p : α → Bool) (h : xs[i]? = some x) : (xs.take (i + 1)).filter p = (xs.take i).filter p ++ if p x = true then [x] else [] := by
  rw [take_snoc h, List.filter_append]
  by_cases hp : p x = true
  · rw [if_pos hp, List.filter_cons_of_pos hp, List.filter_nil]
  · rw [if_neg hp, List.filter_cons_of_neg hp, List.filter_nil]
/-- not below another one of these -/
def free_ (E : List Lot) (a : Lot) : Bool := !E.any fun b => below b a
def spLNeat (n : Nat) : Sp := fun vs H Q _ => ∃ (v : V) (D : Dm) (ps : Pool), vs = [v] ∧ Dv H v D ∧ D.deep ≤ n ∧ D.Over ps ∧ ps.length ≤ 8 ∧ Wo ps ∧
  ∀ p us L H', Ex H H' → H' p = some (.tup us) → All2 (L.map IsLot) us H' → LsOk L → (∀ a, a ∈ L ↔ MinLot (some D) a) → Q (.ref p) H'
structure Fln (P : Program) (w : World) (K : PySem.W.Frag) (mg : Str → Option Value) (base : Heap) : Prop where
  sorted : mg "sorted" = none
  any : mg "any" = none
  all : mg "all" = none
  len : mg "len" = none
  tuple : mg "tuple" = none
  h_law_claims : Has P w K mg base CX0 "_law_claims" 24 ["demand"] (spClaims 24)
  h_law_lots : Has P w K mg base CX0 "_law_lots" 1 ["things"] spLots
  h_law_truth : Has P w K mg base CX0 "_law_truth" 24 ["demand", "lot"] (spTruth 24)
section
variable {P : Program} {w : World} {K : PySem.W.Frag} {mg : Str → Option Value} {base : Heap} {f : Addr} {fd : FuncData}
theorem scLNeat : FnScope ["demand", "enough", "least", "lot", "other", "pair"] ["demand"] (defScope (top 19)) := ⟨rfl, rfl, rfl, by decide +kernel, rfl, by decide +kernel, by decide +kernel⟩
theorem ok_lneat (F : FnT K "_law_neat" (top 19) f fd) (T : Fln P w K mg base) : FnOk P w K mg base CX0 25 f fd ["demand"] (spLNeat 24) := by
  have sc := scLNeat
  refine F.ok scLNeat (fun vs H Q E h => ?_) (fun cdv A outer s H vs Q E hr h => ?_)
  · obtain ⟨_, _, _, rfl, _⟩ := h
    rfl
  have hu0 := hr.un
  have hu4 : (A.deeper (envOfC "_law_neat" (defScope (top 19)) s.heap.objs.size f cdv)).units + 64 < cLine := by omega
  have hu : (A.deeper (envOfC "_law_neat" (defScope (top 19)) s.heap.objs.size f cdv)).units + 65 < cLine := by omega
  refine ⟨_, PSs.nox (pss_cons (ps_setLc (i := 1) (own := [("lot", 3)]) rfl sc.nd rfl rfl (sw_true rfl rfl rfl (by decide +kernel)) (pi_list (pe_callH T.h_law_lots hr pass0 (pa_cons (pe_callH T.h_law_claims hr pass0 (pa_cons (pv 0) pa_nil)) pa_nil))) (blkOk_by (N := ["demand", "enough", "least", "lot", "other", "pair"]) (sc := defScope (top 19)) (by decide +kernel)) (fun _ _ _ _ _ => (pg_name (i := 3) sc.nd rfl (Or.inl rfl))) (fun _ _ _ _ _ => (pts_one (pt_val (pe_callH T.h_law_truth hr pass0 (pa_cons (pv 0) (pa_cons (pv 3) pa_nil)))))) (fun _ _ _ _ _ => (pv 3)))
      (pss_cons (ps_set (i := 2) sc.nd rfl (Or.inl rfl) (pe_lst pa_nil))
      (pss_cons (ps_for PassesOwn.never rfl (pi_list (pv 1)) (pg_name (i := 3) sc.nd rfl (Or.inr rfl)) (pss_one (ps_if (pt_not (pt_val (pe_callB (cr_any rfl) (by rfl) T.any (by decide +kernel) (pa_cons (pe_lc (own := [("other", 4)]) (tt := tYes) rfl sc.nd (pi_list (pv 1)) (blkOk_by (N := ["demand", "enough", "least", "lot", "other", "pair"]) (sc := defScope (top 19)) (by decide +kernel)) (fun _ _ _ _ _ => (pg_name (i := 4) sc.nd rfl (Or.inl rfl))) (fun _ _ _ _ _ => pts_nil) (fun _ _ _ _ _ => by exact (pe_and (pe_cmpR op_lt (pe_callB (call_lenQ rfl) (by rfl) T.len (by decide +kernel) (pa_cons (pv 4) pa_nil)) (pe_callB (call_lenQ rfl) (by rfl) T.len (by decide +kernel) (pa_cons (pv 3) pa_nil)) (nomark _)) (pe_one (pe_callB (cr_allK rfl rfl) (by rfl) T.all (by decide +kernel) (pa_cons (pe_lc (own := [("pair", 5)]) (tt := tYes) rfl sc.nd (pi_tupK rfl (pv 4)) (by exact (blkOk_by (N := ["demand", "enough", "least", "lot", "other", "pair"]) (sc := relS _ (defScope (top 19))) (by decide +kernel))) (fun _ _ _ _ _ => (pg_name (i := 5) sc.nd rfl (Or.inl rfl))) (fun _ _ _ _ _ => pts_nil) (fun _ _ _ _ _ => (pe_cmpR (op_inDTK rfl hu) (pv 5) (pv 3) (by rfl)))) pa_nil)))))) pa_nil)))) (pss_one (ps_expr (pe_bm PySem.F.plainAttrs_list PySem.F.slot_list_append PySem.F.type_list_append mt_append (pv 2) (pa_cons (pv 3) pa_nil)))) pss_nil)))
      (pss_one (ps_ret (pe_callTy call_tuple_of (by rfl) T.tuple (by decide +kernel) (pa_cons (pe_callB (cr_sortedLN hu4) (by rfl) T.sorted (by decide +kernel) (pa_cons (pv 2) pa_nil)) pa_nil))))))), ?_⟩
  obtain ⟨v, D, ps, rfl, hv, dd, ov, few, wo, k⟩ := h
  refine q_asgQ ?_
  refine ⟨_, rfl, v, some D, ps, rfl, hv, dd, ov, by omega, fun q1 us1 cs H1 e1 n1 h1 a1 o1 m1 => ?_⟩
  have ccl : cs.length ≤ 8 := Nat.le_trans (nodup_leD cs ps o1.nd fun z hz => (Dm.over_iff D).mp ov z ((m1 z).mp hz)) few
  have cwo : Wo cs := fun z hz => wo z ((Dm.over_iff D).mp ov z ((m1 z).mp hz))
  refine ⟨q1, us1, cs, rfl, h1, a1, ccl, fun lq lws H2 e2 nlq hlq aL => ⟨lq, rfl, ⟨_, sq_of hlq⟩, fun en hen => ?_⟩⟩
  have e12 := e1.trans e2
  have ll := aL.len
  rw [List.length_map] at ll
  have l256 : lws.length ≤ 256 := by
    rw [← ll, lots_len]
    have : 2 ^ cs.length ≤ 2 ^ 8 := Nat.pow_le_pow_right (by decide) ccl
    omega
  have hv2 := hv.mono (TupEx.of e12)
  refine lcT (walk_list (xs := lws)) (fun i ys G => All2 ((((lotsOf cs).take i).filter (satB (some D))).map IsLot) ys G ∧ Ex H2 G) ?_ (fun i ys G _ ⟨_, e⟩ => sq_of (e _ _ hlq)) ?_ ?_
  · exact ⟨.nil, Ex.new hen⟩
  · rintro i x ys G G' hi ly hDl ⟨al, ex⟩ ⟨rfl, hx⟩
    obtain ⟨R, hR, rr⟩ := all2_get aL hx
    rw [List.getElem?_map] at hR
    obtain ⟨lt, hlt, rfl⟩ := Option.map_eq_some_iff.mp hR
    have lsub := lots_sub cs lt (List.mem_of_getElem? hlt)
    obtain ⟨t, ls, rfl, ht, als⟩ := IsLot.monT _ _ _ (TupEx.of ex) rr
    have lwo : Wo lt := fun z hz => cwo z (lsub.1 z hz)
    refine ⟨rfl, ?_⟩
    refine ⟨_, rfl, _, rfl, v, some D, t, ls, lt, ps, rfl, hv2.mono (TupEx.of ex), dd, ov, wo, ht, als, lwo, fun r G1 g1 i1 => ⟨r, rfl, ?_⟩⟩
    have er := satB_iff i1
    subst er
    dsimp only
    by_cases b : satB (some D) lt = true
    · rw [if_pos b]
      have t4 := TupEx.lst (ys := ys ++ [.ref t]) (g1 _ _ hDl)
      refine ⟨_, rfl, NxT.of ly (by omega) (g1 _ _ hDl) ⟨?_, (ex.trans g1).mut hen⟩⟩
      rw [filt_snoc _ hlt, if_pos b, List.map_append]
      exact All2.app (All2.monT lots_monT ((TupEx.of g1).trans t4) al) (.cons ⟨t, ls, rfl, t4 _ _ (g1 _ _ ht), All2.monT pool_monT ((TupEx.of g1).trans t4) als⟩ .nil)
    · rw [if_neg b]
      refine ⟨ys, by omega, g1 _ _ hDl, ?_, ex.trans g1⟩
      rw [filt_snoc _ hlt, if_neg b, List.append_nil]
      exact All2.monT lots_monT (TupEx.of g1) al
  · rintro ys G ly hDl ⟨al, ex⟩
    rw [← ll, List.take_length] at al
    obtain ⟨E, hE⟩ : ∃ E, E = (lotsOf cs).filter (satB (some D)) := ⟨_, rfl⟩
    rw [← hE] at al
    have eE : ∀ a, a ∈ E ↔ a ∈ lotsOf cs ∧ SatO (· ∈ a) (some D) := fun a => by rw [hE, List.mem_filter, satB_true]
    have ys256 : ys.length ≤ 256 := by omega
    have lE := al.len
    rw [List.length_map] at lE
    have Eok : ∀ a ∈ E, ClOk a ∧ Wo a ∧ a.length ≤ 8 := fun a ha => by
      have z := (eE a).mp ha
      have s := lots_sub cs a z.1
      exact ⟨o1.sub (lots_sublist cs a z.1), fun y hy => cwo y (s.1 y hy), by omega⟩
    have e02 := e12.trans ex
    dsimp only [gName]
    refine q_asgL (el_lst ea_nil (by decide)) fun dn H4 hdn e4 h4 => ?_
    have hen4 := e4 _ _ hDl
    have ned : en ≠ dn := fun z => by rw [← z, hDl] at hdn; cases hdn
    have al4 := All2.monT lots_monT (TupEx.of e4) al
    have nH : H dn = none := fresh_back e02 hdn
    have e04 := e02.trans e4
    refine ⟨_, rfl, en, rfl, ⟨_, sq_of hen4⟩, for_it (walk_list (xs := ys)) (fun i σ' H' => ∃ (zs : List V) (x3 x4 x5 : Option V), σ' = [some v, some (.ref en), some (.ref dn), x3, x4, x5] ∧ H' dn = some (.lst zs) ∧ zs.length ≤ i ∧ All2 (((E.take i).filter (free_ E)).map IsLot) zs H' ∧ Ex H H' ∧ TupEx H4 H' ∧ H' en = some (.lst ys)) ?_ ?_ ?_ ?_⟩
    · exact ⟨[], _, _, _, rfl, h4, Nat.le_refl _, .nil, e04, fun _ _ h => h, hen4⟩
    · rintro i σ' H' hi ⟨_, _, _, _, _, _, _, _, _, _, h⟩
      exact sq_of h
    · rintro i x σ' H' H'' hi ⟨zs, x3, x4, x5, rfl, hd, lz, az, ex5, tx, hen5⟩ ⟨rfl, hx⟩
      obtain ⟨R, hR, rr⟩ := all2_get al4 hx
      rw [List.getElem?_map] at hR
      obtain ⟨lt, hlt, rfl⟩ := Option.map_eq_some_iff.mp hR
      have ltm := List.mem_of_getElem? hlt
      obtain ⟨_, lwo, l8⟩ := Eok lt ltm
      obtain ⟨t, ls, rfl, ht, als⟩ := IsLot.monT _ _ _ tx rr
      have lls := als.len
      rw [List.length_map] at lls
      have al5 := All2.monT lots_monT tx al4
      -- whether another one is below
      have test : EvT (tNot (tB (tCB (rAny K) (tCons (tLc (iList K (tVar 1)) (gName 4) tYes (tAndV (tOp (rI0 fun i j => .bl (decide (i < j))) (tCB (fun xs H Q => ∃ x n, xs = [x] ∧ LenV K x H n ∧ Q (.int n) H) (tCons (tVar 4) tNil)) (tCB (fun xs H Q => ∃ x n, xs = [x] ∧ LenV K x H n ∧ Q (.int n) H) (tCons (tVar 3) tNil))) (tCB (rAll K) (tCons (tLc (iTup K (tVar 4)) (gName 5) tYes (tOp (rInDT K) (tVar 5) (tVar 3)) [5]) tNil))) [4]) tNil)))) [some v, some (.ref en), some (.ref dn), some (.ref t), x4, x5] H'' (free_ E lt) := fun H6 e6 Q6 q6 => by
        refine ⟨_, rfl, en, rfl, ⟨_, sq_of (e6 _ _ hen5)⟩, fun Da hDa => ?_⟩
        refine lcJ (walk_list (xs := ys)) (fun j bs G => bs = ((E.take j).map fun b => below b lt).map V.bl ∧ Ex H6 G) ?_ (fun j bs G _ ⟨_, e⟩ => sq_of (e _ _ (e6 _ _ hen5))) ?_ ?_
        · exact ⟨rfl, Ex.new hDa⟩
        · rintro j y bs G5 G' hj lb hDa2 ⟨rfl, ey⟩ ⟨rfl, hy⟩
          obtain ⟨R, hR, r2⟩ := all2_get al5 hy
          rw [List.getElem?_map] at hR
          obtain ⟨b, hb, rfl⟩ := Option.map_eq_some_iff.mp hR
          obtain ⟨_, bwo, b8⟩ := Eok b (List.mem_of_getElem? hb)
          have e6y := e6.trans ey
          obtain ⟨t2, ls2, rfl, ht2, als2⟩ := IsLot.monT _ _ _ (TupEx.of e6y) r2
          have lls2 := als2.len
          rw [List.length_map] at lls2
          have fin : ∀ (r : Bool) (G2 : Hp), Ex G' G2 → r = below b lt → NxL Da (fun j bs G => bs = ((E.take j).map fun b => below b lt).map V.bl ∧ Ex H6 G) j (.bl r) G2 := fun r G2 g2 er => by
            refine NxL.of lb (by omega) (g2 _ _ hDa2) ⟨?_, (ey.trans g2).mut hDa⟩
            rw [take_snoc hb, List.map_append, List.map_append, er]
            rfl
          refine ⟨rfl, ?_⟩
          refine ⟨_, rfl, .ref t2, ls2.length, rfl, .inr ⟨ls2, st_of ht2, rfl⟩, _, rfl, .ref t, ls.length, rfl, .inr ⟨ls, st_of (e6y _ _ ht), rfl⟩, _, _, rfl, rfl, _, rfl, ?_⟩
          by_cases lt_ : b.length < lt.length
          · rw [if_pos (by rw [decide_eq_true_eq]; omega)]
            refine ⟨_, rfl, t2, rfl, ⟨_, st_of ht2⟩, fun Db hDb => ?_⟩
            refine lcJ (walk_tup (xs := ls2)) (fun m cs2 G => ∃ bs2 : List Bool, cs2 = bs2.map V.bl ∧ (bs2.all id = true ↔ ∀ z ∈ b.take m, z ∈ lt) ∧ Ex G' G) ?_ (fun m cs2 G _ ⟨_, _, _, e⟩ => st_of (e _ _ ht2)) ?_ ?_
            · exact ⟨[], rfl, by simp, Ex.new hDb⟩
            · rintro m y2 cs2 G6 G6' hm lm hDb2 ⟨bs2, rfl, iff2, ez⟩ ⟨rfl, hy2⟩
              obtain ⟨R, hR, r3⟩ := all2_get als2 hy2
              rw [List.getElem?_map] at hR
              obtain ⟨c, hc, rfl⟩ := Option.map_eq_some_iff.mp hR
              obtain ⟨t3, rfl, ht3⟩ := IsPl.monT _ _ _ (TupEx.of ez) r3
              refine ⟨rfl, ?_⟩
              refine ⟨_, rfl, _, rfl, plD c, lt.map plD, .tup (st_of ht3) (.cons (.str _) (.cons (.int _) .nil)), .tup (st_of ((e6y.trans ez) _ _ ht)) (dp_pls (All2.monT pool_monT (TupEx.of (e6y.trans ez)) als)), pl_shaped (bwo c (List.mem_of_getElem? hc)), pls_shaped lwo, ?_⟩
              rw [pls_any]
              refine NxL.of lm (by omega) hDb2 ⟨bs2 ++ [decide (c ∈ lt)], by rw [List.map_append]; rfl, ?_, ez.mut hDb⟩
              rw [take_snoc hc]
              exact all_snoc (p := fun z => z ∈ lt) iff2 (by simp)
            · rintro cs2 G6 lm hDb2 ⟨bs2, rfl, iff2, ez⟩
              rw [← lls2, List.take_length] at iff2
              refine ⟨Db, bs2, rfl, sq_of hDb2, fin _ G6 ez ?_⟩
              unfold below
              rw [decide_eq_true lt_, Bool.true_and]
              exact Bool.eq_iff_iff.mpr (iff2.trans (decide_eq_true_iff).symm)
          · rw [if_neg (by rw [decide_eq_true_eq]; omega)]
            refine fin _ G' (Ex.refl _) ?_
            unfold below
            rw [decide_eq_false lt_, Bool.false_and]
        · rintro bs G5 lb hDa2 ⟨rfl, ey⟩
          rw [← lE, List.take_length] at hDa2
          refine ⟨Da, E.map fun b => below b lt, rfl, sq_of hDa2, _, rfl, ?_⟩
          have z : (!(E.map fun b => below b lt).all id) = (!(E.map fun b => below b lt).all id) := rfl
          have e : (!(E.map fun b => below b lt).any id) = free_ E lt := by
            unfold free_
            rw [List.any_map]
            rfl
          dsimp only
          rw [e]
          exact q6 G5 ey
      refine s_when (b := free_ E lt) test (fun hb G1 g1 => ?_) (fun hb G1 g1 => ?_)
      · refine s_app (v := .ref t) (g1 _ _ hd) (ev_var rfl) (ev_var rfl) (by omega) fun G2 g2 => ?_
        have g12 := g1.trans g2
        have hz := g12 _ _ hd
        have t4 := TupEx.lst (ys := zs ++ [.ref t]) hz
        refine ⟨zs ++ [.ref t], _, _, _, rfl, upd_same, by rw [List.length_append, List.length_singleton]; omega, ?_, (ex5.trans g12).mut nH, tx.trans ((TupEx.of g12).trans t4), by rw [upd_ne ned]; exact g12 _ _ hen5⟩
        rw [filt_snoc _ hlt, if_pos hb, List.map_append]
        exact All2.app (All2.monT lots_monT ((TupEx.of g12).trans t4) az) (.cons ⟨t, ls, rfl, t4 _ _ (g12 _ _ ht), All2.monT pool_monT ((TupEx.of g12).trans t4) als⟩ .nil)
      · refine ⟨zs, _, _, _, rfl, g1 _ _ hd, by omega, ?_, ex5.trans g1, tx.trans (TupEx.of g1), g1 _ _ hen5⟩
        rw [filt_snoc _ hlt, if_neg (by rw [hb]; decide), List.append_nil]
        exact All2.monT lots_monT (TupEx.of g1) az
    · rintro σ' H' ⟨zs, x3, x4, x5, rfl, hd, lz, az, ex5, tx, hen5⟩
      rw [← lE, List.take_length] at az
      have mM : ∀ a, a ∈ E.filter (free_ E) ↔ MinLot (some D) a := min_of o1 (fun z hz => (m1 z).mpr hz) eE fun a => by
        rw [List.mem_filter]
        unfold free_
        simp
      dsimp only [tRet]
      refine x_srt (K := K) (σ := [some v, some (.ref en), some (.ref dn), x3, x4, x5]) (te := tVar 2) (ks := E.filter (free_ E)) kindL (fun x _ y _ => lot_alike x y) (fun x hx => lot_cons ?_) (fun H7 e7 Q7 q7 => ⟨_, rfl, q7 _ H7 (Ex.refl H7) ⟨dn, zs, rfl, e7 _ _ hd, All2.monT lots_monT (TupEx.of e7) az⟩⟩) _ (Ex.refl _) _ fun v6 H6 e6 r6 => ?_
      · have m := (mM x).mp hx
        intro z
        subst z
        exact D.sat_none ((D.sat_cong fun z _ => by simp).mp m.2.1)
      obtain ⟨sp, su, L, rfl, nsp, hsp, aS, pS, oS⟩ := r6
      refine ⟨sp, su, rfl, .inl ⟨sq_of hsp, fun l hl => ?_⟩⟩
      have e7 := Ex.new (o := .tup su) hl
      refine k l su L _ ((ex5.trans e6).trans e7) upd_same (All2.monT lots_monT (TupEx.of e7) aS) ⟨pS.nodup_iff.mpr ?_, oS⟩ fun a => (pS.mem_iff).trans (mM a)
      rw [hE]
      exact ((lots_nodup cs o1.nd).filter _).filter _
end
end K10
set_option maxHeartbeats 4000000
/-! Whether two data are the same, by the law. -/
namespace K10
open PySem PySem.Spec PyProof.Rows L2 Evl LL
/-- texts and numbers in tuples, so deep at most -/
inductive TD : Nat → PyData → Prop
  | str {n : Nat} (s : Str) : TD (n + 1) (.str s)
  | int {n : Nat} (i : Int) : TD (n + 1) (.int i)
  | tup {n : Nat} {ds : List PyData} (h : ds.length ≤ 1000) (hs : ∀ d ∈ ds, TD n d) : TD (n + 1) (.tuple ds)
theorem TD.pos {n : Nat} {d : PyData} (h : TD n d) : 1 ≤ n := by cases h <;> omega
theorem dzs_get {l : Addr} {H : Hp} : ∀ (i : Nat) {us : List V} {ds : List PyData} {u : V}, Dzs l H us ds → us[i]? = some u → ∃ d, ds[i]? = some d ∧ Dz l H u d
  | _, _, _, _, .nil, h => by simp at h
  | 0, _, _, _, .cons a _, h => by
    simp only [List.getElem?_cons_zero, Option.some.injEq] at h
    subst h
    exact ⟨_, rfl, a⟩
  | i + 1, _, _, _, .cons _ b, h => dzs_get i b (by simpa using h)
theorem dzs_len {l : Addr} {H : Hp} : ∀ {us : List V} {ds : List PyData}, Dzs l H us ds → us.length = ds.length
  | _, _, .nil => rfl
  | _, _, .cons _ b => by rw [List.length_cons, List.length_cons, dzs_len b]
theorem kit_strTL {K : PySem.W.Frag} : PySem.W.kitAny K (.type "str") [.type "tuple", .type "list"] = some false := by kernel_rfl
theorem kit_intTL {K : PySem.W.Frag} : PySem.W.kitAny K (.type "int") [.type "tuple", .type "list"] = some false := by kernel_rfl
theorem kit_tupTL {K : PySem.W.Frag} : PySem.W.kitAny K (.type "tuple") [.type "tuple", .type "list"] = some true := by kernel_rfl
theorem kit_tt {K : PySem.W.Frag} : PySem.W.kitOne K (.type "tuple") (.type "tuple") = some true := by kernel_rfl
theorem kit_tl {K : PySem.W.Frag} : PySem.W.kitOne K (.type "tuple") (.type "list") = some false := by kernel_rfl
theorem kit_sb {K : PySem.W.Frag} : PySem.W.kitOne K (.type "str") (.type "bool") = some false := by kernel_rfl
theorem kit_si {K : PySem.W.Frag} : PySem.W.kitOne K (.type "str") (.type "int") = some false := by kernel_rfl
theorem kit_ib {K : PySem.W.Frag} : PySem.W.kitOne K (.type "int") (.type "bool") = some false := by kernel_rfl
theorem kit_ii {K : PySem.W.Frag} : PySem.W.kitOne K (.type "int") (.type "int") = some true := by kernel_rfl
section
variable {K : PySem.W.Frag} {σ : L2.St} {H : Hp} {i : Nat} {v : V} {t : String} {b : Bool}
theorem ev_is1 {n : String} (hi : σ[i]? = some (some v)) (ht : ∀ H', Ex H H' → TyX K H' v (.type t)) (hk : PySem.W.kitOne K (.type t) (.type n) = some b) : Ev (tCB (rIsi K) (tCons (tVar i) (tCons (tC (.ty n)) tNil))) σ H (.bl b) :=
  ev_cb (ea_cons (ev_var hi) (ea_cons ev_c ea_nil)) fun H1 e Q q => ⟨_, _, _, _, _, rfl, .ty _, ht H1 e, hk, q H1 (Ex.refl H1)⟩
theorem ev_is2 (hi : σ[i]? = some (some v)) (ht : ∀ H', Ex H H' → TyX K H' v (.type t)) (hk : PySem.W.kitAny K (.type t) [.type "tuple", .type "list"] = some b) : Ev (tCB (rIsiT K) (tCons (tVar i) (tCons (tTup (tCons (tC (.ty "tuple")) (tCons (tC (.ty "list")) tNil))) tNil))) σ H (.bl b) := fun H1 e Q q =>
  ⟨v, hi, by show 2 ≤ sizeLine; decide, fun p hp => by
    have ex := Ex.new (o := .tup [.ty "tuple", .ty "list"]) hp
    exact ⟨v, p, _, _, [.type "tuple", .type "list"], b, rfl, upd_same, .cons (.ty _) (.cons (.ty _) .nil), ht _ (e.trans ex), hk, q _ ex⟩⟩
end
theorem walk_zipT {K : PySem.W.Frag} {a b : Addr} {xs ys : List V} (hl : xs.length = ys.length) : Walk (RZ.ItzT K a b) xs.length (fun H => SqT K H a xs ∧ SqT K H b ys) (YPair (fun i => xs[i]?) fun i => ys[i]?) :=
  ⟨fun i H hi q => ⟨xs, ys, _, _, q.1, q.2, List.getElem?_eq_getElem hi, List.getElem?_eq_getElem (by omega)⟩, fun H q => ⟨xs, ys, q.1, q.2, .inl (Nat.le_refl _)⟩, fun i H x H' hi q y => by
    obtain ⟨T, u, v, e1, e2, e3, e4, e5⟩ := y
    exact ⟨T, u, v, e1, e2, e3, e4 xs q.1, e5 ys q.2⟩⟩
def spIs (n : Nat) : Sp := fun vs H Q _ => ∃ (v u : V) (l : Addr) (d : PyData), vs = [v, u] ∧ TD n d ∧ Dz l H v d ∧ Dz l H u d ∧ Apart l H ∧ ∀ H', Ex H H' → Q (.bl true) H'
structure Fis (P : Program) (w : World) (K : PySem.W.Frag) (mg : Str → Option Value) (base : Heap) (n : Nat) : Prop where
  isinstance : mg "isinstance" = none
  tuple : mg "tuple" = none
  list : mg "list" = none
  bool : mg "bool" = none
  int : mg "int" = none
  len : mg "len" = none
  all : mg "all" = none
  zip : mg "zip" = none
  h_law_is : Has P w K mg base CX0 "_law_is" n ["told", "due"] (spIs n)
section
variable {P : Program} {w : World} {K : PySem.W.Frag} {mg : Str → Option Value} {base : Heap} {f : Addr} {fd : FuncData}
theorem scIs : FnScope ["told", "due", "one", "two"] ["told", "due"] (defScope (top 11)) := ⟨rfl, rfl, rfl, by decide +kernel, rfl, by decide +kernel, by decide +kernel⟩
theorem ok_is (n : Nat) (F : FnT K "_law_is" (top 11) f fd) (T : Fis P w K mg base n) : FnOk P w K mg base CX0 (n + 1) f fd ["told", "due"] (spIs (n + 1)) := by
  have sc := scIs
  refine F.ok scIs (fun vs H Q E h => ?_) (fun cdv A outer s H vs Q E hr h => ?_)
  · obtain ⟨_, _, _, _, rfl, _⟩ := h
    rfl
  refine ⟨_, PSs.nox (pss_cons (ps_if (pt_val (pe_callB call_isiT (by rfl) T.isinstance (by decide +kernel) (pa_cons (pv 1) (pa_cons (pe_tup (pa_cons (pe_bltn (v := .ty "tuple") (u := .type "tuple") (by rfl) T.tuple (by decide +kernel) rfl) (pa_cons (pe_bltn (v := .ty "list") (u := .type "list") (by rfl) T.list (by decide +kernel) rfl) pa_nil))) pa_nil)))) (pss_cons (ps_if (PW.pt (pw_or (pt_cmpR op_ne (pe_callB call_isi (by rfl) T.isinstance (by decide +kernel) (pa_cons (pv 0) (pa_cons (pe_bltn (v := .ty "tuple") (u := .type "tuple") (by rfl) T.tuple (by decide +kernel) rfl) pa_nil))) (pe_callB call_isi (by rfl) T.isinstance (by decide +kernel) (pa_cons (pv 1) (pa_cons (pe_bltn (v := .ty "tuple") (u := .type "tuple") (by rfl) T.tuple (by decide +kernel) rfl) pa_nil))) (nomark _)) (pw_or1 (pt_cmpR op_ne (pe_callB call_isi (by rfl) T.isinstance (by decide +kernel) (pa_cons (pv 0) (pa_cons (pe_bltn (v := .ty "list") (u := .type "list") (by rfl) T.list (by decide +kernel) rfl) pa_nil))) (pe_callB call_isi (by rfl) T.isinstance (by decide +kernel) (pa_cons (pv 1) (pa_cons (pe_bltn (v := .ty "list") (u := .type "list") (by rfl) T.list (by decide +kernel) rfl) pa_nil))) (nomark _))))) (pss_one (ps_ret pe_bl)) pss_nil)
      (pss_one (ps_ret (pe_and (pe_cmpR op_eq (pe_callB call_len (by rfl) T.len (by decide +kernel) (pa_cons (pv 0) pa_nil)) (pe_callB call_len (by rfl) T.len (by decide +kernel) (pa_cons (pv 1) pa_nil)) (nomark _)) (pe_one (pe_callB (cr_all rfl) (by rfl) T.all (by decide +kernel) (pa_cons (pe_lc (own := [("one", 2), ("two", 3)]) (tt := tYes) rfl sc.nd (RZ.pi_zipA (by rfl) T.zip (pa_cons (pv 0) (pa_cons (pv 1) pa_nil))) (blkOk_by (N := ["told", "due", "one", "two"]) (sc := defScope (top 11)) (by decide +kernel)) (fun _ _ _ _ _ => by exact (pg_tupK (K := K) (n := 2) rfl rfl (pgs_cons (pg_name (i := 2) sc.nd rfl (Or.inl rfl)) (pgs_cons (pg_name (i := 3) sc.nd rfl (Or.inl rfl)) pgs_nil)))) (fun _ _ _ _ _ => pts_nil) (fun _ _ _ _ _ => (pe_callH (hj := by omega) T.h_law_is hr pass0 (pa_cons (pv 2) (pa_cons (pv 3) pa_nil))))) pa_nil))))))) pss_nil)
      (pss_cons (ps_if (PW.pt (pw_or (pt_cmpR op_ne (pe_callB call_isi (by rfl) T.isinstance (by decide +kernel) (pa_cons (pv 0) (pa_cons (pe_bltn (v := .ty "bool") (u := .type "bool") (by rfl) T.bool (by decide +kernel) rfl) pa_nil))) (pe_callB call_isi (by rfl) T.isinstance (by decide +kernel) (pa_cons (pv 1) (pa_cons (pe_bltn (v := .ty "bool") (u := .type "bool") (by rfl) T.bool (by decide +kernel) rfl) pa_nil))) (nomark _)) (pw_or1 (pt_cmpR op_ne (pe_callB call_isi (by rfl) T.isinstance (by decide +kernel) (pa_cons (pv 0) (pa_cons (pe_bltn (v := .ty "int") (u := .type "int") (by rfl) T.int (by decide +kernel) rfl) pa_nil))) (pe_callB call_isi (by rfl) T.isinstance (by decide +kernel) (pa_cons (pv 1) (pa_cons (pe_bltn (v := .ty "int") (u := .type "int") (by rfl) T.int (by decide +kernel) rfl) pa_nil))) (nomark _))))) (pss_one (ps_ret pe_bl)) pss_nil)
      (pss_one (ps_ret (pe_cmpR op_eq (pv 0) (pv 1) (nomark _)))))), ?_⟩
  obtain ⟨v, u, l, d, rfl, td, dv, du, ap, k⟩ := h
  cases td with
  | str z =>
    cases dv
    cases du
    have ts : ∀ H', Ex H H' → TyX K H' (.str z) (.type "str") := fun _ _ => .base (.str z)
    refine q_when (b := false) (et_B (ev_is2 rfl ts kit_strTL)) (fun z => nomatch z) (fun _ H1 e1 => ?_)
    have ts1 : ∀ H', Ex H1 H' → TyX K H' (.str z) (.type "str") := fun _ _ => .base (.str z)
    refine q_when (b := false) (et_is (et_or (a := false) (b := false) (et_is (et_test (ev_op (ev_is1 (n := "bool") rfl ts1 kit_sb) (ev_is1 (n := "bool") rfl ts1 kit_sb) (rv_ne rfl))) (by simp)) (fun _ => et_is (et_test (ev_op (ev_is1 (n := "int") rfl ts1 kit_si) (ev_is1 (n := "int") rfl ts1 kit_si) (rv_ne rfl))) (by simp))) rfl) (fun z => nomatch z) (fun _ H2 e2 => ?_)
    exact s_ret (v := .bl true) (ev_is (ev_op (ev_var rfl) (ev_var rfl) (rv_eq rfl)) (by simp)) fun H3 e3 => k H3 ((e1.trans e2).trans e3)
  | int z =>
    cases dv
    cases du
    have ts : ∀ H', Ex H H' → TyX K H' (.int z) (.type "int") := fun _ _ => .base (.int z)
    refine q_when (b := false) (et_B (ev_is2 rfl ts kit_intTL)) (fun z => nomatch z) (fun _ H1 e1 => ?_)
    have ts1 : ∀ H', Ex H1 H' → TyX K H' (.int z) (.type "int") := fun _ _ => .base (.int z)
    refine q_when (b := false) (et_is (et_or (a := false) (b := false) (et_is (et_test (ev_op (ev_is1 (n := "bool") rfl ts1 kit_ib) (ev_is1 (n := "bool") rfl ts1 kit_ib) (rv_ne rfl))) (by simp)) (fun _ => et_is (et_test (ev_op (ev_is1 (n := "int") rfl ts1 kit_ii) (ev_is1 (n := "int") rfl ts1 kit_ii) (rv_ne rfl))) (by simp))) rfl) (fun z => nomatch z) (fun _ H2 e2 => ?_)
    exact s_ret (v := .bl true) (ev_is (ev_op (ev_var rfl) (ev_var rfl) (rv_eq rfl)) (by simp)) fun H3 e3 => k H3 ((e1.trans e2).trans e3)
  | @tup _ ds few hs =>
    cases dv with
    | @tup a xs _ na ha hx =>
    cases du with
    | @tup b ys _ nb hb hy =>
    have tv : ∀ H', Ex H H' → TyX K H' (.ref a) (.type "tuple") := fun H' e => .base (.tup (e _ _ ha))
    have tu : ∀ H', Ex H H' → TyX K H' (.ref b) (.type "tuple") := fun H' e => .base (.tup (e _ _ hb))
    refine q_when (b := true) (et_B (ev_is2 rfl tu kit_tupTL)) (fun _ H1 e1 => ?_) (fun z => nomatch z)
    have tv1 : ∀ H', Ex H1 H' → TyX K H' (.ref a) (.type "tuple") := fun H' e => tv H' (e1.trans e)
    have tu1 : ∀ H', Ex H1 H' → TyX K H' (.ref b) (.type "tuple") := fun H' e => tu H' (e1.trans e)
    refine q_when (b := false) (et_is (et_or (a := false) (b := false) (et_is (et_test (ev_op (ev_is1 (n := "tuple") rfl tv1 kit_tt) (ev_is1 (n := "tuple") rfl tu1 kit_tt) (rv_ne rfl))) (by simp)) (fun _ => et_is (et_test (ev_op (ev_is1 (n := "list") rfl tv1 kit_tl) (ev_is1 (n := "list") rfl tu1 kit_tl) (rv_ne rfl))) (by simp))) rfl) (fun z => nomatch z) (fun _ H2 e2 => ?_)
    have e12 := e1.trans e2
    have ha2 := e12 _ _ ha
    have hb2 := e12 _ _ hb
    have lx := dzs_len hx
    have ly := dzs_len hy
    refine ⟨_, rfl, .ref a, xs.length, rfl, .inr ⟨xs, st_of ha2, rfl⟩, _, rfl, .ref b, ys.length, rfl, .inr ⟨ys, st_of hb2, rfl⟩, rfl, _, rfl, ?_⟩
    rw [if_pos (by rw [lx, ly]; simp)]
    refine ⟨_, rfl, _, rfl, a, b, xs, ys, rfl, .inr ⟨st_of ha2, st_of hb2, fun Dl hD => ?_⟩⟩
    have eD := Ex.new (o := .lst []) hD
    refine lcJ (walk_zipT (xs := xs) (ys := ys) (by rw [lx, ly])) (fun i bs G => bs = (List.replicate i true).map V.bl ∧ Ex H2 G) ?_ (fun i bs G _ ⟨_, e⟩ => ⟨st_of (e _ _ ha2), st_of (e _ _ hb2)⟩) ?_ ?_
    · exact ⟨rfl, eD⟩
    · rintro i x bs G G' hi lz hDl ⟨rfl, ex⟩ ⟨t, p1, p2, rfl, ht, rfl, h1, h2⟩
      obtain ⟨d1, g1, z1⟩ := dzs_get i hx h1
      obtain ⟨d2, g2, z2⟩ := dzs_get i hy h2
      rw [g1] at g2
      cases g2
      have et := Ex.new (o := .tup [p1, p2]) ht
      have eG := (e12.trans ex).trans et
      refine ⟨t, _, rfl, st_of upd_same, rfl, _, _, rfl, _, _, rfl, rfl, rfl, ?_⟩
      refine ⟨_, rfl, _, rfl, p1, p2, l, d1, rfl, hs d1 (List.mem_of_getElem? g1), z1.mono (Exl.of eG), z2.mono (Exl.of eG), ap.mono eG, fun G2 e2 => ?_⟩
      refine NxL.of lz (by omega) ((et.trans e2) _ _ hDl) ⟨?_, (ex.trans (et.trans e2)).mut hD⟩
      rw [List.replicate_succ', List.map_append]
      rfl
    · rintro bs G lz hDl ⟨rfl, ex⟩
      refine ⟨Dl, List.replicate xs.length true, rfl, sq_of hDl, ?_⟩
      have z : (List.replicate xs.length true).all id = true := by simp
      rw [z]
      exact k G (e12.trans ex)
/-- as deep as one likes -/
theorem is_all (F : FnT K "_law_is" (top 11) f fd) (z1 : mg "isinstance" = none) (z2 : mg "tuple" = none) (z3 : mg "list" = none) (z4 : mg "bool" = none) (z5 : mg "int" = none) (z6 : mg "len" = none) (z7 : mg "all" = none) (z8 : mg "zip" = none)
    (hm : mg "_law_is" = some (.ref f)) (hk : PySem.W.keepIn K (.ref f) = true) (hb : Binds K fd ["told", "due"] []) : ∀ n, FnOk P w K mg base CX0 n f fd ["told", "due"] (spIs n)
  | 0 => ⟨fun vs H Q E h => by obtain ⟨_, _, _, _, rfl, _⟩ := h; rfl, fun A outer s H args us vs Q E hr he hbb hv h => by
    obtain ⟨_, _, _, _, _, td, _⟩ := h
    have := td.pos
    omega⟩
  | n + 1 => ok_is n F ⟨z1, z2, z3, z4, z5, z6, z7, z8, ⟨f, fd, hm, hk, hb, is_all F z1 z2 z3 z4 z5 z6 z7 z8 hm hk hb n⟩⟩
end
end K10
set_option maxHeartbeats 4000000
/-! Demands otherwise, and near. -/
namespace K10
open PySem PySem.Spec PyProof.Rows L2 Evl LL
theorem over_str {D : Dm} {ps : Pool} (ov : D.Over ps) (nm : ∀ x ∈ ps, WordOk x.1 ∧ x.2.natAbs < 10 ^ 30) : ∀ x ∈ D.cl, PyData.strOk x.1 = true := fun x hx => (nm x ((Dm.over_iff D).mp ov x hx)).1.1
theorem ev_deep {K : PySem.W.Frag} {σ : L2.St} {H : Hp} {E0 : XK} {v : V} {D : Dm} (hs : σ[1]? = some (some v)) (hv : Dv H v D) (hd : D.deep ≤ 4) : Ev (tCall (spDeep 4) [] E0 (tCons (tVar 1) tNil)) σ H (.int ((D.deep : Nat) : Int)) := fun H1 e Q q => ⟨_, hs, v, D, rfl, hv.mono (TupEx.of e), hd, fun H' e' => q H' e'⟩
/-- both or either, drawn -/
theorem draw_hd {l c : Addr} {H : Hp} {σ : L2.St} {E0 : XK} {Q : VK} (hs : σ[0]? = some (some (.ref l))) (hh : HandC H l c) (k : ∀ b H', Exl l H H' → HandC H' l c → Q (.str (hdOf b)) H') : tCall spSome [] E0 (tCons (tVar 0) (tCons (tLst (tCons (tC (.str "both")) (tCons (tC (.str "either")) tNil))) tNil)) σ H Q :=
  ⟨_, hs, by show 2 ≤ sizeLine; decide, fun q hq => ⟨l, c, q, _, rfl, (hh.new hq).1, .inl upd_same, by simp, by decide, hh.mono (Ex.new hq), fun v H' hv x hh' => by
    have x' := (Exl.of (l := l) (Ex.new (o := .lst [.str "both", .str "either"]) hq)).trans x
    simp only [List.mem_cons, List.not_mem_nil, or_false] at hv
    rcases hv with rfl | rfl
    · exact k true H' x' hh'
    · exact k false H' x' hh'⟩⟩
def spOth : Sp := fun vs H Q _ => ∃ (l c p : Addr) (v : V) (D : Dm) (zs : List V) (ps : Pool), vs = [.ref l, v, .ref p, .int 4] ∧ HandC H l c ∧ Dv H v D ∧ D.deep ≤ 4 ∧ Po l H p zs ps ∧ D.Over ps ∧ ∀ v' D' H', Exl l H H' → HandC H' l c → Dv H' v' D' → D'.deep ≤ 4 → D'.Over ps → (∀ S, D'.Sat S ↔ D.Sat S) → Q v' H'
structure Fot (P : Program) (w : World) (K : PySem.W.Frag) (mg : Str → Option Value) (base : Heap) : Prop where
  max : mg "max" = none
  h_law_draw : Has P w K mg base CX0 "_law_draw" 1 ["hand", "many"] spDraw
  h_law_some : Has P w K mg base CX0 "_law_some" 2 ["hand", "things"] spSome
  h_law_demand : Has P w K mg base CX0 "_law_demand" 7 ["hand", "pool", "deep"] (spDem 4)
  h_law_demand_deep : Has P w K mg base CX0 "_law_demand_deep" 4 ["demand"] (spDeep 4)
  h_law_turned : Has P w K mg base CX0 "_law_turned" 5 ["hand", "demand"] (spTurned 4)
abbrev S8 (l p : Addr) (v : V) (x4 x5 x6 x7 : Option V) : L2.St := [some (.ref l), some v, some (.ref p), some (.int 4), x4, x5, x6, x7]
section
variable {P : Program} {w : World} {K : PySem.W.Frag} {mg : Str → Option Value} {base : Heap} {f : Addr} {fd : FuncData}
theorem scOth : FnScope ["hand", "demand", "pool", "deep", "kind", "more", "word", "inner"] ["hand", "demand", "pool", "deep"] (defScope (top 14)) := ⟨rfl, rfl, rfl, by decide +kernel, rfl, by decide +kernel, by decide +kernel⟩
theorem ok_oth (F : FnT K "_law_otherwise" (top 14) f fd) (T : Fot P w K mg base) : FnOk P w K mg base CX0 8 f fd ["hand", "demand", "pool", "deep"] spOth := by
  have sc := scOth
  refine F.ok scOth (fun vs H Q E h => ?_) (fun cdv A outer s H vs Q E hr h => ?_)
  · obtain ⟨_, _, _, _, _, _, _, rfl, _⟩ := h
    rfl
  refine ⟨_, PSs.nox (pss_cut (ps_set (i := 4) sc.nd rfl (Or.inl rfl) (pe_ifExp (pt_cmpR op_gt (pv 3) (pe_callH T.h_law_demand_deep hr pass0 (pa_cons (pv 1) pa_nil)) (nomark _)) (pe_callH T.h_law_draw hr pass0 (pa_cons (pv 0) (pa_cons pe_int pa_nil))) pe_int))
      (pss_cons (ps_if (pt_cmpR op_gt (pv 4) pe_int (nomark _)) (pss_cut (ps_set (i := 5) sc.nd rfl (Or.inl rfl) (pe_ifExp (pt_cmpR op_gt (pv 3) (pe_op op_add (pe_callH T.h_law_demand_deep hr pass0 (pa_cons (pv 1) pa_nil)) pe_int) (nomark _)) (pe_callH T.h_law_demand hr pass0 (pa_cons (pv 0) (pa_cons (pv 2) (pa_cons (pe_callB (call_max2 rfl) (by rfl) T.max (by decide +kernel) (pa_cons pe_int (pa_cons (pe_op op_sub (pv 3) pe_int) pa_nil))) pa_nil)))) (pv 1)))
      (pss_cons (ps_if (PW.pt (pw_or (pt_cmpR op_eq (pv 4) pe_int (nomark _)) (pw_or1 (pt_cmpR (op_eqD hr.units) (pv 5) (pv 1) (nomark _))))) (pss_one (ps_ret (pe_callH T.h_law_turned hr pass0 (pa_cons (pv 0) (pa_cons (pe_tup (pa_cons (pe_callH T.h_law_some hr pass0 (pa_cons (pv 0) (pa_cons (pe_lst (pa_cons pe_str (pa_cons pe_str pa_nil))) pa_nil))) (pa_cons (pv 1) (pa_cons (pv 1) pa_nil)))) pa_nil))))) pss_nil)
      (pss_cons (ps_asg (pe_callH T.h_law_some hr pass0 (pa_cons (pv 0) (pa_cons (pe_lst (pa_cons (pe_tup (pa_cons pe_str (pa_cons pe_str pa_nil))) (pa_cons (pe_tup (pa_cons pe_str (pa_cons pe_str pa_nil))) pa_nil))) pa_nil))) (pg_tup rfl (pgs_cons (pg_name (i := 6) sc.nd rfl (Or.inl rfl)) (pgs_cons (pg_name (i := 7) sc.nd rfl (Or.inl rfl)) pgs_nil))))
      (pss_one (ps_ret (pe_callH T.h_law_turned hr pass0 (pa_cons (pv 0) (pa_cons (pe_tup (pa_cons (pv 6) (pa_cons (pv 1) (pa_cons (pe_callH T.h_law_turned hr pass0 (pa_cons (pv 0) (pa_cons (pe_tup (pa_cons (pv 7) (pa_cons (pv 1) (pa_cons (pv 5) pa_nil)))) pa_nil))) pa_nil)))) pa_nil)))))))) pss_nil)
      (pss_one (ps_ret (pe_callH T.h_law_turned hr pass0 (pa_cons (pv 0) (pa_cons (pv 1) pa_nil))))))), ?_⟩
  obtain ⟨l, c, p, v, D, zs, ps, rfl, hh, hv, hd, po, ov, k⟩ := h
  have so := over_str ov po.nm
  refine q_cut (M := fun σ' H' => ∃ (kd : Int) (x5 x6 x7 : Option V), σ' = S8 l p v (some (.int kd)) x5 x6 x7 ∧ Exl l H H' ∧ HandC H' l c ∧ (2 < kd → D.deep ≤ 3)) ?first ?rest
  case first =>
    refine s_asgQ ?_
    refine if_at (b := decide ((4 : Int) > ((D.deep : Nat) : Int))) (et_test (ev_op (ev_var rfl) (ev_deep (K := K) rfl hv hd) rv_I0)) (fun hb H1 e1 => ?_) (fun hb H1 e1 => ?_)
    · have hb := of_decide_eq_true hb
      exact ⟨_, rfl, l, c, 6, rfl, by decide, by decide, hh.mono e1, fun f1 H5 g0 g1 x5 hh5 => ⟨f1, _, _, _, rfl, (Exl.of e1).trans x5, hh5, fun _ => by omega⟩⟩
    · exact ⟨0, _, _, _, rfl, Exl.of e1, hh.mono e1, fun z => by omega⟩
  case rest =>
    rintro σ' H1 ⟨kd, x5, x6, x7, rfl, x01, hh1, hk⟩
    have t01 := exl_tup hh x01
    have hv1 := hv.mono t01
    refine q_when (b := decide (kd > 2)) (et_test (ev_op (ev_var rfl) ev_c rv_I0)) (fun hb H2 e2 => ?_) (fun hb H2 e2 => ?_)
    · have d3 := hk (of_decide_eq_true hb)
      have x02 := x01.trans (Exl.of e2)
      have hh2 := hh1.mono e2
      have hv2 := hv1.mono (TupEx.of e2)
      have po2 := po.mono x02 (exl_tup hh x02)
      refine q_cut (M := fun σ' H' => ∃ (v5 : V) (D5 : Dm) (x6 x7 : Option V), σ' = S8 l p v (some (.int kd)) (some v5) x6 x7 ∧ Exl l H H' ∧ HandC H' l c ∧ Dv H' v D ∧ Dv H' v5 D5 ∧ D5.Over ps ∧ D5.deep ≤ 4 ∧ ((D.deep ≤ 2 ∧ D5.deep ≤ 2) ∨ D5 = D)) ?more ?after
      case more =>
        refine s_asgQ ?_
        refine if_at (b := decide ((4 : Int) > ((D.deep : Nat) : Int) + 1)) (et_test (ev_op (ev_var rfl) (ev_op (ev_deep (K := K) rfl hv2 hd) ev_c rv_I0) rv_I0)) (fun hb H3 e3 => ?_) (fun hb H3 e3 => ?_)
        · have hb := of_decide_eq_true hb
          have x03 := x02.trans (Exl.of e3)
          have po3 := po2.mono (Exl.of e3) (TupEx.of e3)
          refine ⟨_, rfl, _, rfl, _, rfl, _, _, rfl, rfl, 1, 2, rfl, l, c, p, 2, zs, ps, rfl, by decide, by decide, hh2.mono e3, po3.ne, po3.at_, po3.n0, by have := po3.lz; omega, po3.all_, fun v5 D5 H4 x4 hh4 dv5 ov5 dp5 => ?_⟩
          exact ⟨v5, D5, _, _, rfl, x03.trans x4, hh4, (hv2.mono (TupEx.of e3)).mono (exl_tup (hh2.mono e3) x4), dv5, ov5, by omega, .inl ⟨by omega, dp5⟩⟩
        · exact ⟨_, rfl, v, D, _, _, rfl, x02.trans (Exl.of e3), hh2.mono e3, hv2.mono (TupEx.of e3), hv2.mono (TupEx.of e3), ov, hd, .inr rfl⟩
      case after =>
        rintro σ' H3 ⟨v5, D5, x6, x7, rfl, x03, hh3, hv3, hv5, ov5, d5, alt⟩
        have so5 := over_str ov5 po.nm
        refine q_when (b := (decide (V.int kd = V.int 3)) || (D5.dat.eqv D.dat)) (et_or (et_test (ev_op (ev_var rfl) ev_c (rv_eq rfl))) fun _ => et_test (ev_op (ev_var rfl) (ev_var rfl) (fun H1 e Q q => ⟨D5.dat, D.dat, (hv5.mono (TupEx.of e)).dp, (hv3.mono (TupEx.of e)).dp, Dm.shaped so5 (by omega), Dm.shaped so (by omega), q H1 (Ex.refl H1)⟩))) (fun hb H4 e4 => ?_) (fun hb H4 e4 => ?_)
        · refine ⟨_, rfl, draw_hd (c := c) rfl (hh3.mono e4) fun b H5 x5 hh5 => ?_⟩
          have x45 := (Exl.of (l := l) e4).trans x5
          refine ⟨_, rfl, _, rfl, by show 3 ≤ sizeLine; decide, fun tp htp => ?_⟩
          have e6 := Ex.new (o := .tup [.str (hdOf b), v, v]) htp
          have hv6 := (hv3.mono (exl_tup hh3 x45)).mono (TupEx.of e6)
          refine ⟨l, c, _, mkD b D D, rfl, hh5.mono e6, .mk b upd_same hv6 hv6, by rw [mkD_deep]; omega, fun v' D' H' x7 hh7 dv' dp' ov' sa' => ?_⟩
          exact k v' D' H' (((x03.trans x45).trans (Exl.of e6)).trans x7) hh7 dv' (by rw [dp', mkD_deep]; omega) (ov' ps ((mkD_over _ _ _ _).mpr ⟨ov, ov⟩)) fun S => by rw [sa', mkD_sat]; cases b <;> simp
        · rw [Bool.or_eq_false_iff] at hb
          have alt : D.deep ≤ 2 ∧ D5.deep ≤ 2 := by
            rcases alt with h | h
            · exact h
            · rw [h, Dm.eqv_self so] at hb
              exact absurd hb.2 (by decide)
          refine ⟨_, rfl, by show 2 ≤ sizeLine; decide, fun ta hta => ⟨by show 2 ≤ sizeLine; decide, fun tb htb => ⟨by show 2 ≤ sizeLine; decide, fun q hq => ?_⟩⟩⟩
          have ea := Ex.new (o := .tup [.str "both", .str "either"]) hta
          have eb := Ex.new (o := .tup [.str "either", .str "both"]) htb
          have eq := Ex.new (o := .lst [.ref ta, .ref tb]) hq
          have e47 := ((e4.trans ea).trans eb).trans eq
          have hh7 := hh3.mono e47
          refine ⟨l, c, q, _, rfl, (((hh3.mono e4).mono (ea.trans eb)).new hq).1, .inl upd_same, by simp, by show 2 ≤ 100000; decide, hh7, fun u H8 hu x8 hh8 => ?_⟩
          have x48 := (Exl.of (l := l) e47).trans x8
          have pairOf : ∃ (tq : Addr) (b : Bool), u = .ref tq ∧ H8 tq = some (.tup [.str (hdOf b), .str (hdOf (!b))]) := by
            have t8 := exl_tup hh7 x8
            simp only [List.mem_cons, List.not_mem_nil, or_false] at hu
            rcases hu with rfl | rfl
            · exact ⟨ta, true, rfl, t8 _ _ ((eb.trans eq) _ _ upd_same)⟩
            · exact ⟨tb, false, rfl, t8 _ _ (eq _ _ upd_same)⟩
          obtain ⟨tq, b, rfl, htq⟩ := pairOf
          have hv8 := hv3.mono (exl_tup hh3 x48)
          have hv58 := hv5.mono (exl_tup hh3 x48)
          have x08 := x03.trans x48
          refine ⟨tq, _, rfl, st_of htq, rfl, _, _, rfl, _, _, rfl, rfl, ?_⟩
          refine ⟨_, rfl, _, rfl, _, rfl, _, rfl, _, rfl, _, rfl, _, rfl, by show 3 ≤ sizeLine; decide, fun tp htp => ?_⟩
          have e9 := Ex.new (o := .tup [.str (hdOf (!b)), v, v5]) htp
          refine ⟨l, c, _, mkD (!b) D D5, rfl, hh8.mono e9, .mk _ upd_same (hv8.mono (TupEx.of e9)) (hv58.mono (TupEx.of e9)), by rw [mkD_deep]; omega, fun v6 D6 H10 x10 hh10 dv6 dp6 ov6 sa6 => ⟨by show 3 ≤ sizeLine; decide, fun tr htr => ?_⟩⟩
          have x910 := (Exl.of (l := l) e9).trans x10
          have e11 := Ex.new (o := .tup [.str (hdOf b), v, v6]) htr
          rw [mkD_deep] at dp6
          refine ⟨l, c, _, mkD b D D6, rfl, hh10.mono e11, .mk _ upd_same ((hv8.mono (exl_tup hh8 x910)).mono (TupEx.of e11)) (dv6.mono (TupEx.of e11)), by rw [mkD_deep]; omega, fun v' D' H' x12 hh12 dv' dp' ov' sa' => ?_⟩
          exact k v' D' H' (((x08.trans x910).trans (Exl.of e11)).trans x12) hh12 dv' (by rw [dp', mkD_deep]; omega) (ov' ps ((mkD_over _ _ _ _).mpr ⟨ov, ov6 ps ((mkD_over _ _ _ _).mpr ⟨ov, ov5⟩)⟩)) fun S => by
            rw [sa', mkD_sat, sa6, mkD_sat]
            cases b
            · simp only [Bool.not_false, if_true, Bool.false_eq_true, if_false]
              exact ⟨fun h => h.elim id fun h => h.1, .inl⟩
            · simp only [Bool.not_true, if_true, Bool.false_eq_true, if_false]
              exact ⟨fun h => h.1, fun h => ⟨h, .inl h⟩⟩
    · refine ⟨_, rfl, _, rfl, l, c, v, D, rfl, hh1.mono e2, hv1.mono (TupEx.of e2), hd, fun v' D' H' x3 hh3 dv' dp' ov' sa' => ?_⟩
      exact k v' D' H' ((x01.trans (Exl.of e2)).trans x3) hh3 dv' (by omega) (ov' ps ov) sa'
end
end K10
set_option maxHeartbeats 4000000
/-! The wide demands. -/
namespace K10
open PySem PySem.Spec PyProof.Rows L2 Evl LL
structure PoN (ps : Pool) : Prop where
  few : ps.length ≤ 8
  nm : ∀ x ∈ ps, WordOk x.1 ∧ x.2.natAbs < 10 ^ 30
theorem PoN.wo {ps : Pool} (h : PoN ps) : Wo ps := fun x hx => (h.nm x hx).1.1
theorem datO_lim {o : Option Dm} {ps : Pool} (d : deepO o ≤ 4) (ov : OverO ps o) (h : PoN ps) : Lim 4 (limK 4) (datO o) := by
  cases o with
  | none => exact Lim.non.mono (by decide) (by decide)
  | some D => exact Dm.lim 4 D d fun x hx => h.nm x ((Dm.over_iff D).mp ov x hx)
def wPool : Pool := [("small", 0), ("small", 1), ("small", 2), ("small", 19), ("plain", 0), ("plain", 1), ("plain", 2), ("plain", 19)]
theorem wok (s : Str) (h1 : PyData.strOk s = true := by decide +kernel) (h2 : plainW s = true := by decide +kernel) (h3 : (reprText s).length ≤ 30 := by decide +kernel) : WordOk s := ⟨h1, h2, h3⟩
theorem wPool_ok : PoN wPool := ⟨by decide, fun x hx => by
  have w1 := wok "small"
  have w2 := wok "plain"
  simp only [wPool, List.mem_cons, List.not_mem_nil, or_false] at hx
  rcases hx with rfl | rfl | rfl | rfl | rfl | rfl | rfl | rfl
  · exact ⟨w1, by decide⟩
  · exact ⟨w1, by decide⟩
  · exact ⟨w1, by decide⟩
  · exact ⟨w1, by decide⟩
  · exact ⟨w2, by decide⟩
  · exact ⟨w2, by decide⟩
  · exact ⟨w2, by decide⟩
  · exact ⟨w2, by decide⟩⟩
/-- a demand of the wide pool, so deep at most -/
def IsDm (n : Nat) : VP := fun v H => ∃ D, Dv H v D ∧ D.deep ≤ n ∧ D.Over wPool
theorem IsDm.monT {n : Nat} : MonT (IsDm n) := fun v H H' e ⟨D, h, r⟩ => ⟨D, h.mono e, r⟩
theorem all2_rep {R : VP} {H : Hp} : ∀ {vs : List V}, (∀ v ∈ vs, R v H) → All2 (List.replicate vs.length R) vs H
  | [], _ => .nil
  | _ :: _, h => .cons (h _ List.mem_cons_self) (all2_rep fun v hv => h v (List.mem_cons_of_mem _ hv))
def spWide : Sp := fun vs H Q _ => ∃ (l c : Addr) (b1 b2 : Bool), vs = [.ref l, .str (hdOf b1), .str (hdOf b2)] ∧ HandC H l c ∧ ∀ v x y H', Exl l H H' → HandC H' l c → Dv H' v (mkD b2 x y) → x.deep ≤ 3 → y.deep ≤ 3 → x.Over wPool → y.Over wPool → Q v H'
structure Fwi (P : Program) (w : World) (K : PySem.W.Frag) (mg : Str → Option Value) (base : Heap) : Prop where
  range : mg "range" = none
  int : mg "int" = none
  h_law_mixed : Has P w K mg base CX0 "_law_mixed" 2 ["hand", "things"] spMixed
section
variable {P : Program} {w : World} {K : PySem.W.Frag} {mg : Str → Option Value} {base : Heap} {f : Addr} {fd : FuncData}
theorem scWide : FnScope ["hand", "word", "other", "pairs", "some", "pair", "at"] ["hand", "word", "other"] (defScope (top 22)) := ⟨rfl, rfl, rfl, by decide +kernel, rfl, by decide +kernel, by decide +kernel⟩
theorem ok_wide (F : FnT K "_law_wide" (top 22) f fd) (T : Fwi P w K mg base) : FnOk P w K mg base CX0 3 f fd ["hand", "word", "other"] spWide := by
  have sc := scWide
  refine F.ok scWide (fun vs H Q E h => ?_) (fun cdv A outer s H vs Q E hr h => ?_)
  · obtain ⟨_, _, _, _, rfl, _⟩ := h
    rfl
  refine ⟨_, PSs.nox (pss_cut (ps_set (i := 3) sc.nd rfl (Or.inl rfl) (pe_callH T.h_law_mixed hr pass0 (pa_cons (pv 0) (pa_cons (pe_lc (own := [("at", 6)]) (tt := tYes) rfl sc.nd (pi_range1 (by rfl) T.range (pa_cons pe_int pa_nil)) (blkOk_by (N := ["hand", "word", "other", "pairs", "some", "pair", "at"]) (sc := defScope (top 22)) (by decide +kernel)) (fun _ _ _ _ _ => (pg_name (i := 6) sc.nd rfl (Or.inl rfl))) (fun _ _ _ _ _ => pts_nil) (fun _ _ _ _ _ => (pe_tup (pa_cons (pe_ix (ix_listK rfl) (pe_lst (pa_cons pe_str (pa_cons pe_str pa_nil))) (pe_op op_fdivN (pv 6) pe_int) (fun _ _ => rfl)) (pa_cons (pe_ix (ix_listK rfl) (pe_lst (pa_cons pe_int (pa_cons pe_int (pa_cons pe_int (pa_cons pe_int pa_nil))))) (pe_op op_modN (pe_callTy call_int1 (by rfl) T.int (by decide +kernel) (pa_cons (pv 6) pa_nil)) pe_int) (fun _ _ => rfl)) pa_nil))))) pa_nil))))
      (pss_cut (ps_set (i := 4) sc.nd rfl (Or.inr rfl) (pe_lc (own := [("pair", 5)]) (tt := tYes) rfl sc.nd (pi_list (pv 3)) (blkOk_by (N := ["hand", "word", "other", "pairs", "some", "pair", "at"]) (sc := defScope (top 22)) (by decide +kernel)) (fun _ _ _ _ _ => (pg_name (i := 5) sc.nd rfl (Or.inl rfl))) (fun _ _ _ _ _ => pts_nil) (fun _ _ _ _ _ => (pe_op (op_catAK rfl) (pe_tup (pa_cons pe_str pa_nil)) (pv 5)))))
      (pss_cut (ps_set (i := 4) sc.nd rfl (Or.inr rfl) (pe_lc (own := [("at", 6)]) (tt := tYes) rfl sc.nd (pi_tup (pe_tup (pa_cons pe_int (pa_cons pe_int (pa_cons pe_int (pa_cons pe_int pa_nil)))))) (blkOk_by (N := ["hand", "word", "other", "pairs", "some", "pair", "at"]) (sc := defScope (top 22)) (by decide +kernel)) (fun _ _ _ _ _ => (pg_name (i := 6) sc.nd rfl (Or.inl rfl))) (fun _ _ _ _ _ => pts_nil) (fun _ _ _ _ _ => (pe_tup (pa_cons (pv 1) (pa_cons (pe_ix (ix_listK rfl) (pv 4) (pv 6) (fun _ _ => rfl)) (pa_cons (pe_ix (ix_listK rfl) (pv 4) (pe_op op_add (pv 6) pe_int) (fun _ _ => rfl)) pa_nil)))))))
      (pss_one (ps_ret (pe_tup (pa_cons (pv 2) (pa_cons (pe_tup (pa_cons (pv 2) (pa_cons (pe_ix ix_list (pv 4) pe_int (fun _ _ => rfl)) (pa_cons (pe_ix ix_list (pv 4) pe_int (fun _ _ => rfl)) pa_nil)))) (pa_cons (pe_tup (pa_cons (pv 2) (pa_cons (pe_ix ix_list (pv 4) pe_int (fun _ _ => rfl)) (pa_cons (pe_ix ix_list (pv 4) pe_int (fun _ _ => rfl)) pa_nil)))) pa_nil))))))))), ?_⟩
  obtain ⟨l, c, b1, b2, rfl, hh, k⟩ := h
  refine q_cut (M := fun σ' H' => ∃ (m : Addr) (ys : List V) (x4 x5 x6 : Option V), σ' = [some (.ref l), some (.str (hdOf b1)), some (.str (hdOf b2)), some (.ref m), x4, x5, x6] ∧ Exl l H H' ∧ HandC H' l c ∧ m ≠ l ∧ H' m = some (.lst ys) ∧ ys.length = 8 ∧ ∀ v ∈ ys, ∃ x ∈ wPool, IsPl x v H') ?pairs ?r1
  case pairs =>
    refine s_asgQ ?_
    refine ⟨_, rfl, 8, rfl, by decide, by decide, fun Dl hD => ?_⟩
    have eD := Ex.new (o := .lst []) hD
    refine lcJ (walk_range (lo := 0) (n := 8)) (fun i ys G => (∀ v ∈ ys, ∃ x ∈ wPool, IsPl x v G) ∧ Ex H G) ?_ (fun _ _ _ _ _ => trivial) ?_ ?_
    · exact ⟨(fun _ h => nomatch h), eD⟩
    · rintro i x ys G G' hi ly hDl ⟨al, ex⟩ ⟨rfl, hx⟩
      refine ⟨rfl, ?_⟩
      have hx : x = .int (0 + (i : Int)) := hx
      rw [Int.zero_add] at hx
      subst hx
      obtain ⟨nm, n, at1, at2, hm⟩ : ∃ (nm : Str) (n : Int), atI [V.str "small", V.str "plain"] ((i : Int).fdiv 4) = some (.str nm) ∧ atI [V.int 0, V.int 1, V.int 2, V.int 19] ((i : Int).fmod 4) = some (.int n) ∧ (nm, n) ∈ wPool := by
        have : i = 0 ∨ i = 1 ∨ i = 2 ∨ i = 3 ∨ i = 4 ∨ i = 5 ∨ i = 6 ∨ i = 7 := by omega
        rcases this with rfl | rfl | rfl | rfl | rfl | rfl | rfl | rfl
        · exact ⟨"small", 0, rfl, rfl, by decide⟩
        · exact ⟨"small", 1, rfl, rfl, by decide⟩
        · exact ⟨"small", 2, rfl, rfl, by decide⟩
        · exact ⟨"small", 19, rfl, rfl, by decide⟩
        · exact ⟨"plain", 0, rfl, rfl, by decide⟩
        · exact ⟨"plain", 1, rfl, rfl, by decide⟩
        · exact ⟨"plain", 2, rfl, rfl, by decide⟩
        · exact ⟨"plain", 19, rfl, rfl, by decide⟩
      refine ⟨by show 2 ≤ sizeLine; decide, fun q1 hq1 => ⟨_, rfl, _, _, rfl, rfl, ⟨by decide, by decide⟩, q1, _, _, _, rfl, rfl, sq_of upd_same, at1, by show 4 ≤ sizeLine; decide, fun q2 hq2 => ⟨_, rfl, .inl ⟨_, rfl, _, _, rfl, rfl, by show (4 : Int) ≠ 0; decide, q2, _, _, _, rfl, rfl, sq_of upd_same, at2, by show 2 ≤ sizeLine; decide, fun p hp => ?_⟩⟩⟩⟩
      have e1 := Ex.new (o := .lst [V.str "small", V.str "plain"]) hq1
      have e2 := Ex.new (o := .lst [V.int 0, V.int 1, V.int 2, V.int 19]) hq2
      have e3 := Ex.new (o := .tup [.str nm, .int n]) hp
      have e13 := (e1.trans e2).trans e3
      have hz := e13 _ _ hDl
      have t4 := TupEx.lst (ys := ys ++ [.ref p]) hz
      refine NxL.of ly (by omega) hz ⟨fun v hv => ?_, (ex.trans e13).mut hD⟩
      rcases List.mem_append.mp hv with h | h
      · obtain ⟨x, hx, r⟩ := al v h
        exact ⟨x, hx, IsPl.monT _ _ _ ((TupEx.of e13).trans t4) r⟩
      · rw [List.mem_singleton.mp h]
        exact ⟨(nm, n), hm, p, rfl, t4 _ _ upd_same⟩
    · rintro ys G ly hDl ⟨al, ex⟩
      refine ⟨l, c, Dl, ys, rfl, (hh.new hD).1, hDl, by omega, hh.mono ex, fun m zs H' pm nm xm hh' hm => ?_⟩
      refine ⟨m, zs, _, _, _, rfl, (Exl.of ex).trans xm, hh', ((hh.mono ex).new nm).1, hm, by rw [pm.length_eq]; exact ly, fun v hv => ?_⟩
      obtain ⟨x, hx, r⟩ := al v (pm.mem_iff.mp hv)
      exact ⟨x, hx, IsPl.monT _ _ _ (exl_tup (hh.mono ex) xm) r⟩
  case r1 =>
  rintro σ' H1 ⟨m, ys, x4, x5, x6, rfl, x01, hh1, ml, hm, ly8, al1⟩
  refine q_cut (M := fun σ' H' => ∃ (q : Addr) (zs : List V) (x5 x6 : Option V), σ' = [some (.ref l), some (.str (hdOf b1)), some (.str (hdOf b2)), some (.ref m), some (.ref q), x5, x6] ∧ Ex H1 H' ∧ H' q = some (.lst zs) ∧ zs.length = 8 ∧ ∀ v ∈ zs, IsDm 1 v H') ?claims ?r2
  case claims =>
    refine s_asgQ ?_
    refine ⟨_, rfl, m, rfl, ⟨_, sq_of hm⟩, fun Dl hD => ?_⟩
    have eD := Ex.new (o := .lst []) hD
    refine lcJ (walk_list (xs := ys)) (fun i zs G => (∀ v ∈ zs, IsDm 1 v G) ∧ Ex H1 G) ?_ (fun i zs G _ ⟨_, e⟩ => sq_of (e _ _ hm)) ?_ ?_
    · exact ⟨(fun _ h => nomatch h), eD⟩
    · rintro i x zs G G' hi lz hDl ⟨al, ex⟩ ⟨rfl, hx⟩
      obtain ⟨cl, hcl, r⟩ := al1 x (List.mem_of_getElem? hx)
      obtain ⟨t, rfl, ht⟩ := IsPl.monT _ _ _ (TupEx.of ex) r
      refine ⟨rfl, ?_⟩
      refine ⟨by show 1 ≤ sizeLine; decide, fun tp htp => ⟨_, rfl, ?_⟩⟩
      have e1 := Ex.new (o := .tup [.str "claim"]) htp
      refine ⟨tp, t, _, _, rfl, rfl, st_of upd_same, st_of (e1 _ _ ht), by show 3 ≤ sizeLine; decide, (fun z => nomatch z), (fun _ z => nomatch z), fun _ _ r hr => ?_⟩
      have e2 := Ex.new (o := .tup ([.str "claim"] ++ [.str cl.1, .int cl.2])) hr
      have e12 := e1.trans e2
      have hz := e12 _ _ hDl
      have t4 := TupEx.lst (ys := zs ++ [.ref r]) hz
      refine NxL.of lz (by omega) hz ⟨fun v hv => ?_, (ex.trans e12).mut hD⟩
      rcases List.mem_append.mp hv with h | h
      · exact IsDm.monT _ _ _ ((TupEx.of e12).trans t4) (al v h)
      · rw [List.mem_singleton.mp h]
        exact ⟨.claim cl.1 cl.2, .claim (t4 _ _ upd_same), Nat.le_refl _, hcl⟩
    · rintro zs G lz hDl ⟨al, ex⟩
      exact ⟨Dl, zs, _, _, rfl, ex, hDl, by omega, al⟩
  case r2 =>
  rintro σ' H2 ⟨q, zs, x5', x6', rfl, e12, hq, lz8, al2⟩
  refine q_cut (M := fun σ' H' => ∃ (q2 : Addr) (ws : List V) (x5 x6 : Option V), σ' = [some (.ref l), some (.str (hdOf b1)), some (.str (hdOf b2)), some (.ref m), some (.ref q2), x5, x6] ∧ Ex H2 H' ∧ H' q2 = some (.lst ws) ∧ ws.length = 4 ∧ ∀ v ∈ ws, IsDm 2 v H') ?twos ?r3
  case twos =>
    refine s_asgQ ?_
    refine ⟨by show 4 ≤ sizeLine; decide, fun tp htp => ⟨tp, rfl, ⟨_, st_of upd_same⟩, fun Dl hD => ?_⟩⟩
    have e0 := Ex.new (o := .tup [V.int 0, V.int 2, V.int 4, V.int 6]) htp
    have eD := Ex.new (o := .lst []) hD
    have htp2 : L2.upd H2 tp (.tup [V.int 0, V.int 2, V.int 4, V.int 6]) tp = some (.tup [V.int 0, V.int 2, V.int 4, V.int 6]) := upd_same
    have nD2 : H2 Dl = none := fresh_back e0 hD
    revert e0 eD htp2 hD
    generalize L2.upd H2 tp (.tup [V.int 0, V.int 2, V.int 4, V.int 6]) = H3
    intro hD e0 eD htp2
    refine lcJ (walk_tup (xs := [V.int 0, V.int 2, V.int 4, V.int 6])) (fun i ws G => (∀ v ∈ ws, IsDm 2 v G) ∧ Ex H3 G) ?_ (fun i ws G _ ⟨_, e⟩ => st_of (e _ _ htp2)) ?_ ?_
    · exact ⟨(fun _ h => nomatch h), eD⟩
    · rintro i x ws G G' hi lw hDl ⟨al, ex⟩ ⟨rfl, hx⟩
      obtain ⟨j, rfl, hj⟩ : ∃ j : Nat, x = .int (j : Int) ∧ j + 1 < 8 := by
        have hi : i < 4 := hi
        have : i = 0 ∨ i = 1 ∨ i = 2 ∨ i = 3 := by omega
        rcases this with rfl | rfl | rfl | rfl
        · exact ⟨0, (Option.some.inj hx).symm, by decide⟩
        · exact ⟨2, (Option.some.inj hx).symm, by decide⟩
        · exact ⟨4, (Option.some.inj hx).symm, by decide⟩
        · exact ⟨6, (Option.some.inj hx).symm, by decide⟩
      obtain ⟨u1, h1⟩ : ∃ u, zs[j]? = some u := ⟨_, List.getElem?_eq_getElem (by omega)⟩
      obtain ⟨u2, h2⟩ : ∃ u, zs[j + 1]? = some u := ⟨_, List.getElem?_eq_getElem (by omega)⟩
      have e2G := e0.trans ex
      obtain ⟨D1, d1, dp1, ov1⟩ := IsDm.monT _ _ _ (TupEx.of e2G) (al2 u1 (List.mem_of_getElem? h1))
      obtain ⟨D2, d2, dp2, ov2⟩ := IsDm.monT _ _ _ (TupEx.of e2G) (al2 u2 (List.mem_of_getElem? h2))
      refine ⟨rfl, ?_⟩
      refine ⟨_, rfl, _, rfl, _, rfl, q, _, _, u1, rfl, rfl, sq_of (e2G _ _ hq), atI_nat h1, _, rfl, _, rfl, _, _, rfl, rfl, q, _, _, u2, rfl, rfl, sq_of (e2G _ _ hq), atI_nat (j := j + 1) h2, by show 3 ≤ sizeLine; decide, fun p hp => ?_⟩
      have e3 := Ex.new (o := .tup [.str (hdOf b1), u1, u2]) hp
      have hz := e3 _ _ hDl
      have t4 := TupEx.lst (ys := ws ++ [.ref p]) hz
      refine NxL.of lw (by have : i < 4 := hi; omega) hz ⟨fun v hv => ?_, (ex.trans e3).mut hD⟩
      rcases List.mem_append.mp hv with h | h
      · exact IsDm.monT _ _ _ ((TupEx.of e3).trans t4) (al v h)
      · rw [List.mem_singleton.mp h]
        exact ⟨mkD b1 D1 D2, .mk b1 (t4 _ _ upd_same) (d1.mono ((TupEx.of e3).trans t4)) (d2.mono ((TupEx.of e3).trans t4)), by rw [mkD_deep]; omega, (mkD_over _ _ _ _).mpr ⟨ov1, ov2⟩⟩
    · rintro ws G lw hDl ⟨al, ex⟩
      exact ⟨Dl, ws, _, _, rfl, e0.trans ex, hDl, lw, al⟩
  case r3 =>
  rintro σ' H3 ⟨q2, ws, x5'', x6'', rfl, e23, hq2, lw4, al3⟩
  obtain ⟨s0, s1, s2, s3, rfl⟩ : ∃ s0 s1 s2 s3, ws = [s0, s1, s2, s3] := by
    match ws, lw4 with
    | [s0, s1, s2, s3], _ => exact ⟨s0, s1, s2, s3, rfl⟩
  obtain ⟨D0, d0, dp0, ov0⟩ := al3 s0 (by simp)
  obtain ⟨D1, d1, dp1, ov1⟩ := al3 s1 (by simp)
  obtain ⟨D2, d2, dp2, ov2⟩ := al3 s2 (by simp)
  obtain ⟨D3, d3, dp3, ov3⟩ := al3 s3 (by simp)
  have e13 := e12.trans e23
  refine ⟨_, rfl, _, rfl, _, rfl, q2, _, 0, s0, rfl, rfl, sq_of hq2, rfl, _, rfl, q2, _, 1, s1, rfl, rfl, sq_of hq2, rfl, by show 3 ≤ sizeLine; decide, fun p hp => ?_⟩
  have e4 := Ex.new (o := .tup [.str (hdOf b2), s0, s1]) hp
  refine ⟨_, rfl, _, rfl, q2, _, 2, s2, rfl, rfl, sq_of (e4 _ _ hq2), rfl, _, rfl, q2, _, 3, s3, rfl, rfl, sq_of (e4 _ _ hq2), rfl, by show 3 ≤ sizeLine; decide, fun r hr => ⟨by show 3 ≤ sizeLine; decide, fun t ht => ?_⟩⟩
  have e5 := Ex.new (o := .tup [.str (hdOf b2), s2, s3]) hr
  have e6 := Ex.new (o := .tup [.str (hdOf b2), .ref p, .ref r]) ht
  have e46 := (e4.trans e5).trans e6
  refine k _ (mkD b2 D0 D1) (mkD b2 D2 D3) _ (x01.trans (Exl.of (e13.trans e46))) (hh1.mono (e13.trans e46)) (.mk b2 upd_same (.mk b2 ((e5.trans e6) _ _ upd_same) (d0.mono (TupEx.of e46)) (d1.mono (TupEx.of e46))) (.mk b2 (e6 _ _ upd_same) (d2.mono (TupEx.of e46)) (d3.mono (TupEx.of e46)))) (by rw [mkD_deep]; omega) (by rw [mkD_deep]; omega) ((mkD_over _ _ _ _).mpr ⟨ov0, ov1⟩) ((mkD_over _ _ _ _).mpr ⟨ov2, ov3⟩)
end
end K10
set_option maxHeartbeats 4000000
/-! Whether the program's lots are the law's. -/
namespace K10
open PySem PySem.Spec PyProof.Rows L2 Evl LL
theorem over_in {ps : Pool} : ∀ {o : Option Dm}, OverO ps o → ∀ z ∈ clO o, z ∈ ps
  | none, _ => fun _ h => nomatch h
  | some d, h => (Dm.over_iff d).mp h
theorem dat_nb : ∀ d : Dm, notNB d.dat = true
  | .claim _ _ => rfl
  | .both _ _ => rfl
  | .either _ _ => rfl
/-- repr(d), d a demand or None -/
def rReprN : List V → Hp → VK → Prop := fun xs H Q => rReprD xs H Q ∨ (xs = [.non] ∧ Q (.str "None") H)
theorem call_reprN {X : Cx} (y : Sys X.K) (hg : X.A.guards = some []) (hu : X.A.units + 252 < cLine) : CallR X (.builtin "repr") rReprN := by
  intro pins s σ H xs us Q I r h
  rcases h with h | ⟨rfl, q⟩
  · exact call_reprD y hg hu pins s σ H xs us Q I r h
  · obtain ⟨u, rfl, r1⟩ := vals1 r
    cases (show u = Value.none from r1)
    exact P.repr_of_none ⟨.str _, H, I.tok _, ⟨_, rfl⟩, q⟩
theorem ev_rpN {σ : L2.St} {H : Hp} {i : Nat} {v : V} {l : Addr} {a : Option Dm} (hs : σ[i]? = some (some v)) (hl : Apart l H) (hv : IsDO a v H) (L : Lim 222 3000000 (datO a)) : Ev (tCB rReprN (tCons (tVar i) tNil)) σ H (.str (datO a).shown) := fun H1 e Q q => by
  have hv1 := IsDO.monT _ _ _ (TupEx.of e) hv
  cases a with
  | none =>
    cases (show v = .non from hv1)
    refine ⟨_, hs, .inr ⟨rfl, ?_⟩⟩
    have := q H1 (Ex.refl H1)
    rw [show datO none = PyData.none from rfl, PyData.shown_none] at this
    exact this
  | some d => exact ⟨_, hs, .inl ⟨l, v, d.dat, rfl, IsDO.dz (o := some d) (hl.mono e) hv1, dat_nb d, L.sh, Nat.le_trans L.dp (by decide), Nat.le_trans L.ln (by rw [sizeLine_eq]; decide), q H1 (Ex.refl H1)⟩⟩
theorem pl_dz {l : Addr} {H : Hp} (hl : Apart l H) {v : V} {x : Str × Int} (h : IsPl x v H) : Dz l H v (plD x) := by
  obtain ⟨a, rfl, ha⟩ := h
  exact .tup (fun z => hl.nt _ (by rw [← z]; exact ha)) ha (.cons (.str _) (.cons (.int _) .nil))
theorem pls_dz {l : Addr} {H : Hp} (hl : Apart l H) : ∀ {ps : Lot} {us : List V}, All2 (ps.map IsPl) us H → Dzs l H us (ps.map plD)
  | [], _, .nil => .nil
  | _ :: _, _, .cons h hs => .cons (pl_dz hl h) (pls_dz hl hs)
theorem lot_dz {l : Addr} {H : Hp} (hl : Apart l H) {v : V} {x : Lot} (h : IsLot x v H) : Dz l H v (lotD x) := by
  obtain ⟨a, us, rfl, ha, al⟩ := h
  exact .tup (fun z => hl.nt _ (by rw [← z]; exact ha)) ha (pls_dz hl al)
theorem lots_dz {l : Addr} {H : Hp} (hl : Apart l H) : ∀ {L : List Lot} {us : List V}, All2 (L.map IsLot) us H → Dzs l H us (L.map lotD)
  | [], _, .nil => .nil
  | _ :: _, _, .cons h hs => .cons (lot_dz hl h) (lots_dz hl hs)
def dueD (L : List Lot) : PyData := .tuple (L.map lotD)
theorem due_dz {l : Addr} {H : Hp} (hl : Apart l H) {q : Addr} {us : List V} {L : List Lot} (hq : H q = some (.tup us)) (al : All2 (L.map IsLot) us H) : Dz l H (.ref q) (dueD L) := .tup (fun z => hl.nt _ (by rw [← z]; exact hq)) hq (lots_dz hl al)
theorem due_td {L : List Lot} (h : L.length ≤ 1000) (hs : ∀ a ∈ L, a.length ≤ 1000) : TD 4 (dueD L) := by
  refine .tup (by rw [List.length_map]; exact h) fun d hd => ?_
  obtain ⟨a, ha, rfl⟩ := List.mem_map.mp hd
  refine .tup (by rw [List.length_map]; exact hs a ha) fun d hd => ?_
  obtain ⟨x, _, rfl⟩ := List.mem_map.mp hd
  refine .tup (by show 2 ≤ 1000; decide) fun d hd => ?_
  simp only [List.mem_cons, List.not_mem_nil, or_false] at hd
  rcases hd with rfl | rfl
  · exact .str _
  · exact .int _
/-- the lots that are due -/
structure Due (o : Option Dm) (L : List Lot) : Prop where
  ok : LsOk L
  mem : ∀ a, a ∈ L ↔ MinLot o a
theorem Due.cong {o o' : Option Dm} {L : List Lot} (h : Due o L) (e : ∀ S, SatO S o ↔ SatO S o') : Due o' L := ⟨h.ok, fun a => (h.mem a).trans (MinLot.cong e)⟩
theorem Gd.due {o : Option Dm} {L : List Lot} (h : Gd L o) : Due o L := ⟨h.ok, fun _ => h.mem⟩
theorem Due.uniq {o : Option Dm} {L M : List Lot} (h : Due o L) (g : Due o M) : L = M := min_uniq h.ok g.ok h.mem g.mem fun _ => Iff.rfl
theorem Gd.len16 {L : List Lot} {o : Option Dm} (h : Gd L o) (d : deepO o ≤ 4) : L.length ≤ 16 := Nat.le_trans h.len (Nat.le_trans (wd_mono (n := 3) (by omega)) (by decide))
def spRight : Sp := fun vs H Q _ => ∃ (v : V) (a : Option Dm) (l q : Addr) (us : List V) (L : List Lot) (ps : Pool), vs = [v, .ref q] ∧ Apart l H ∧ IsDO a v H ∧ deepO a ≤ 4 ∧ OverO ps a ∧ PoN ps ∧ H q = some (.tup us) ∧ All2 (L.map IsLot) us H ∧ Due a L ∧ ∀ H', Ex H H' → Q (.bl true) H'
structure Fri (P : Program) (w : World) (K : PySem.W.Frag) (mg : Str → Option Value) (base : Heap) : Prop where
  repr : mg "repr" = none
  sys : Sys K
  hneat : Has P w K mg base CX0 "neat" 3 ["demand"] spNeat
  h_law_is : Has P w K mg base CX0 "_law_is" 4 ["told", "due"] (spIs 4)
section
variable {P : Program} {w : World} {K : PySem.W.Frag} {mg : Str → Option Value} {base : Heap} {f : Addr} {fd : FuncData}
theorem scRight : FnScope ["demand", "due", "before"] ["demand", "due"] (defScope (top 21)) := ⟨rfl, rfl, rfl, by decide +kernel, rfl, by decide +kernel, by decide +kernel⟩
theorem ok_right (F : FnT K "_law_is_right" (top 21) f fd) (T : Fri P w K mg base) : FnG P w K mg base CX0 5 f fd ["demand", "due"] spRight := by
  have sc := scRight
  refine fnG_of F scRight (fun {vs H Q E} h => ?_) (fun cdv A outer s H vs Q E hg hr h => ?_)
  · obtain ⟨_, _, _, _, _, _, _, rfl, _⟩ := h
    rfl
  have hG := guards_deeper (env := envOfC "_law_is_right" (defScope (top 21)) s.heap.objs.size f cdv) hg
  have hu := hr.un
  have hu : (A.deeper (envOfC "_law_is_right" (defScope (top 21)) s.heap.objs.size f cdv)).units + 252 < cLine := by omega
  refine ⟨_, PSs.nox (pss_cons (ps_set (i := 2) sc.nd rfl (Or.inl rfl) (pe_callB (call_reprN T.sys hG hu) (by rfl) T.repr (by decide +kernel) (pa_cons (pv 0) pa_nil)))
      (pss_one (ps_ret (pe_and (pe_callH T.h_law_is hr pass0 (pa_cons (pe_callH T.hneat hr pass0 (pa_cons (pv 0) pa_nil)) (pa_cons (pv 1) pa_nil))) (pe_and (pe_callH T.h_law_is hr pass0 (pa_cons (pe_callH T.hneat hr pass0 (pa_cons (pv 0) pa_nil)) (pa_cons (pv 1) pa_nil))) (pe_one (pe_cmpR op_eq (pe_callB (call_reprN T.sys hG hu) (by rfl) T.repr (by decide +kernel) (pa_cons (pv 0) pa_nil)) (pv 2) (nomark _)))))))), ?_⟩
  obtain ⟨v, a, l, q, us, L, ps, rfl, hl, hv, da, oa, po, hq, aL, due, k⟩ := h
  have Lm : Lim 222 3000000 (datO a) := (datO_lim da oa po).mono (by decide) (by decide)
  refine q_asg (ev_rpN rfl hl hv Lm) fun H1 e1 => ?_
  have hl1 := hl.mono e1
  have hv1 := IsDO.monT _ _ _ (TupEx.of e1) hv
  have hq1 := e1 _ _ hq
  have aL1 := All2.monT lots_monT (TupEx.of e1) aL
  have is_ : ∀ (E0 : XK) (H2 : Hp), Ex H1 H2 → Ev (tCall (spIs 4) [] E0 (tCons (tCall spNeat [] E0 (tCons (tVar 0) tNil)) (tCons (tVar 1) tNil))) [some v, some (.ref q), some (.str (datO a).shown)] H2 (.bl true) := fun E0 H2 e2 H3 e3 Q9 q9 =>
    ⟨_, rfl, v, a, rfl, IsDO.monT _ _ _ (TupEx.of (e2.trans e3)) hv1, da, fun z hz => (po.nm z (over_in oa z hz)).1.1, fun p us2 L2 H4 e4 hp aL2 gd => by
      have e24 := (e2.trans e3).trans e4
      have e := gd.due.uniq due
      subst e
      have c8 := cl8 da
      refine ⟨_, rfl, .ref p, .ref q, l, dueD L2, rfl, due_td (by have := gd.len16 da; omega) (fun x hx => by have := gd.few x hx; omega), due_dz (hl1.mono e24) hp aL2, due_dz (hl1.mono e24) (e24 _ _ hq1) (All2.monT lots_monT (TupEx.of e24) aL1), hl1.mono e24, fun H5 e5 => q9 H5 (e4.trans e5)⟩⟩
  refine s_ret (v := .bl true) (ev_andV (a := true) (b := true) (is_ _ H1 (Ex.refl H1)) fun _ => ev_andV (a := true) (b := true) (is_ _ H1 (Ex.refl H1)) fun _ =>
    ev_is (ev_op (ev_rpN rfl hl1 hv1 Lm) (ev_var rfl) (rv_eq rfl)) (by simp)) fun H7 e7 => k H7 (e1.trans e7)
end
end K10
set_option maxHeartbeats 4000000
/-! A demand made of lots. -/
namespace K10
open PySem PySem.Spec PyProof.Rows L2 Evl LL
/-- nothing yet, or a demand that says p -/
def IsW (ps : Pool) (n : Nat) (none_ : Prop) (p : (Str × Int → Prop) → Prop) (v : V) (H : Hp) : Prop := (none_ ∧ v = .non) ∨ (¬ none_ ∧ ∃ D, Dv H v D ∧ D.deep ≤ n ∧ D.Over ps ∧ ∀ S, D.Sat S ↔ p S)
def spOf : Sp := fun vs H Q _ => ∃ (q : Addr) (us : List V) (L : List Lot) (ps : Pool), vs = [.ref q] ∧ H q = some (.tup us) ∧ All2 (L.map IsLot) us H ∧ L ≠ [] ∧ L.length ≤ 16 ∧ (∀ a ∈ L, a ≠ [] ∧ a.length ≤ 8 ∧ ∀ z ∈ a, z ∈ ps) ∧
  ∀ v D H', Ex H H' → Dv H' v D → D.deep ≤ 24 → D.Over ps → (∀ S, D.Sat S ↔ ∃ a ∈ L, ∀ z ∈ a, S z) → Q v H'
section
variable {P : Program} {w : World} {K : PySem.W.Frag} {mg : Str → Option Value} {base : Heap} {f : Addr} {fd : FuncData}
theorem scOf : FnScope ["lots", "found", "lot", "whole", "pair"] ["lots"] (defScope (top 20)) := ⟨rfl, rfl, rfl, by decide +kernel, rfl, by decide +kernel, by decide +kernel⟩
theorem ok_of (F : FnT K "_law_of_lots" (top 20) f fd) : FnOk P w K mg base CX0 1 f fd ["lots"] spOf := by
  have sc := scOf
  refine F.ok scOf (fun vs H Q E h => ?_) (fun cdv A outer s H vs Q E hr h => ?_)
  · obtain ⟨_, _, _, _, rfl, _⟩ := h
    rfl
  refine ⟨_, PSs.nox (pss_cons (ps_set (i := 1) sc.nd rfl (Or.inl rfl) pe_non)
      (pss_cons (ps_for PassesOwn.never rfl (pi_tup (pv 0)) (pg_name (i := 2) sc.nd rfl (Or.inl rfl)) (pss_cons (ps_set (i := 3) sc.nd rfl (Or.inl rfl) pe_non)
      (pss_cons (ps_for PassesOwn.never rfl (pi_tup (pv 2)) (pg_name (i := 4) sc.nd rfl (Or.inl rfl)) (pss_one (ps_set (i := 3) sc.nd rfl (Or.inl rfl) (pe_ifExp (pt_cmpR op_isN (pv 3) pe_non (nomark _)) (pe_op op_catA (pe_tup (pa_cons pe_str pa_nil)) (pv 4)) (pe_tup (pa_cons pe_str (pa_cons (pv 3) (pa_cons (pe_op op_catA (pe_tup (pa_cons pe_str pa_nil)) (pv 4)) pa_nil))))))))
      (pss_one (ps_set (i := 1) sc.nd rfl (Or.inl rfl) (pe_ifExp (pt_cmpR op_isN (pv 1) pe_non (nomark _)) (pv 3) (pe_tup (pa_cons pe_str (pa_cons (pv 1) (pa_cons (pv 3) pa_nil))))))))))
      (pss_one (ps_ret (pv 1))))), ?_⟩
  obtain ⟨q, us, L, ps, rfl, hq, al, ne, few, ok, k⟩ := h
  have lu := al.len
  rw [List.length_map] at lu
  refine q_asgQ ?_
  dsimp only
  refine ⟨_, rfl, q, rfl, ⟨_, st_of hq⟩, for_it (walk_tup (xs := us)) (fun i σ' H' => ∃ (fv : V) (x2 x3 x4 : Option V), σ' = [some (.ref q), some fv, x2, x3, x4] ∧ Ex H H' ∧ IsW ps (8 + i) (i = 0) (fun S => ∃ a ∈ L.take i, ∀ z ∈ a, S z) fv H') ?_ ?_ ?_ ?_⟩
  · exact ⟨.non, _, _, _, rfl, Ex.refl H, .inl ⟨rfl, rfl⟩⟩
  · rintro i σ' H' hi ⟨_, _, _, _, _, e, _⟩
    exact st_of (e _ _ hq)
  · rintro i x σ' H' H'' hi ⟨fv, x2, x3, x4, rfl, ex, iw⟩ ⟨rfl, hx⟩
    obtain ⟨R, hR, rr⟩ := all2_get al hx
    rw [List.getElem?_map] at hR
    obtain ⟨lt, hlt, rfl⟩ := Option.map_eq_some_iff.mp hR
    obtain ⟨ltne, lt8, ltin⟩ := ok lt (List.mem_of_getElem? hlt)
    obtain ⟨t, ls, rfl, ht, als⟩ := IsLot.monT _ _ _ (TupEx.of ex) rr
    have lls := als.len
    rw [List.length_map] at lls
    refine q_asgQ ?_
    dsimp only
    refine ⟨_, rfl, t, rfl, ⟨_, st_of ht⟩, for_it (walk_tup (xs := ls)) (fun j σ' G => ∃ (wv : V) (x4 : Option V), σ' = [some (.ref q), some fv, some (.ref t), some wv, x4] ∧ Ex H'' G ∧ IsW ps j (j = 0) (fun S => ∀ z ∈ lt.take j, S z) wv G) ?_ ?_ ?_ ?_⟩
    · exact ⟨.non, _, rfl, Ex.refl H'', .inl ⟨rfl, rfl⟩⟩
    · rintro j σ' G hj ⟨_, _, _, e, _⟩
      exact st_of (e _ _ ht)
    · rintro j y σ' G G' hj ⟨wv, x4', rfl, ey, jw⟩ ⟨rfl, hy⟩
      obtain ⟨R, hR, r2⟩ := all2_get als hy
      rw [List.getElem?_map] at hR
      obtain ⟨c, hc, rfl⟩ := Option.map_eq_some_iff.mp hR
      obtain ⟨t3, rfl, ht3⟩ := IsPl.monT _ _ _ (TupEx.of ey) r2
      have cin := ltin c (List.mem_of_getElem? hc)
      have tk := take_snoc hc
      refine s_asgQ ?_
      -- ('claim',) + pair
      have claim : ∀ (G1 : Hp) (σ0 : L2.St) (K2 : PySem.W.Frag) (Q9 : VK), Ex G' G1 → σ0[4]? = some (some (.ref t3)) → (∀ r G2, Ex G1 G2 → Dv G2 (.ref r) (.claim c.1 c.2) → Q9 (.ref r) G2) → tOp (rCatA K2) (tTup (tCons (tC (.str "claim")) tNil)) (tVar 4) σ0 G1 Q9 := fun G1 σ0 K2 Q9 e1 h4 q9 =>
        ⟨by show 1 ≤ sizeLine; decide, fun tp htp => ⟨_, h4, by
          have e2 := Ex.new (o := .tup [.str "claim"]) htp
          refine ⟨tp, t3, _, _, rfl, rfl, st_of upd_same, st_of ((e1.trans e2) _ _ ht3), by show 3 ≤ sizeLine; decide, (fun z => nomatch z), (fun _ z => nomatch z), fun _ _ r hr => ?_⟩
          have e3 := Ex.new (o := .tup ([.str "claim"] ++ [.str c.1, .int c.2])) hr
          exact q9 r _ (e2.trans e3) (.claim upd_same)⟩⟩
      rcases jw with ⟨rfl, rfl⟩ | ⟨j0, D, dD, dd, ov, sat⟩
      · refine if_at (b := true) (et_is (et_test (ev_op (ev_var rfl) ev_c (fun H1 _ Q q => ⟨rfl, q H1 (Ex.refl H1)⟩))) (by simp)) (fun _ G1 e1 => claim G1 _ _ _ e1 rfl fun r G2 e2 dv => ?_) (fun z => nomatch z)
        refine ⟨.ref r, _, rfl, ey.trans (e1.trans e2), .inr ⟨by omega, .claim c.1 c.2, dv, Nat.le_refl _, cin, fun S => ?_⟩⟩
        rw [tk]
        show S (c.1, c.2) ↔ _
        simp
      · obtain ⟨b0, hb0⟩ : ∃ b0, wv = .ref b0 := by cases dD <;> exact ⟨_, rfl⟩
        refine if_at (b := false) (et_is (et_test (ev_op (ev_var rfl) ev_c (fun H1 _ Q q => ⟨rfl, q H1 (Ex.refl H1)⟩))) (by rw [hb0]; simp)) (fun z => nomatch z) (fun _ G1 e1 => ?_)
        refine ⟨_, rfl, claim G1 _ _ _ e1 rfl fun r G2 e2 dv => ⟨by show 3 ≤ sizeLine; decide, fun p hp => ?_⟩⟩
        have e3 := Ex.new (o := .tup [.str "both", wv, .ref r]) hp
        have e12 := e1.trans e2
        refine ⟨.ref p, _, rfl, ey.trans (e12.trans e3), .inr ⟨by omega, .both D (.claim c.1 c.2), .both upd_same ((dD.mono (TupEx.of e12)).mono (TupEx.of e3)) (dv.mono (TupEx.of e3)), by show max D.deep 1 + 1 ≤ _; have := D.deep_pos; omega, ⟨ov, cin⟩, fun S => ?_⟩⟩
        rw [tk]
        show (D.Sat S ∧ S (c.1, c.2)) ↔ _
        rw [sat S]
        constructor
        · rintro ⟨h1, h2⟩ z hz
          rcases List.mem_append.mp hz with h | h
          · exact h1 z h
          · rw [List.mem_singleton.mp h]; exact h2
        · intro h
          exact ⟨fun z hz => h z (List.mem_append_left _ hz), h c (List.mem_append_right _ (List.mem_singleton.mpr rfl))⟩
    · rintro σ' G ⟨wv, x4', rfl, ey, jw⟩
      rcases jw with ⟨j0, _⟩ | ⟨_, W, dW, dw, ow, satW⟩
      · exfalso
        rw [← lls] at j0
        exact ltne (List.length_eq_zero_iff.mp j0)
      rw [← lls] at dw satW
      rw [List.take_length] at satW
      have tk := take_snoc hlt
      dsimp only
      refine s_asgQ ?_
      rcases iw with ⟨rfl, rfl⟩ | ⟨i0, D, dD, dd, ov, sat⟩
      · refine if_at (b := true) (et_is (et_test (ev_op (ev_var rfl) ev_c (fun H1 _ Q q => ⟨rfl, q H1 (Ex.refl H1)⟩))) (by simp)) (fun _ G1 e1 => ?_) (fun z => nomatch z)
        refine ⟨_, rfl, wv, _, _, _, rfl, ex.trans (ey.trans e1), .inr ⟨by omega, W, dW.mono (TupEx.of e1), by omega, ow, fun S => ?_⟩⟩
        rw [tk, satW S]
        simp
      · obtain ⟨b0, hb0⟩ : ∃ b0, fv = .ref b0 := by cases dD <;> exact ⟨_, rfl⟩
        refine if_at (b := false) (et_is (et_test (ev_op (ev_var rfl) ev_c (fun H1 _ Q q => ⟨rfl, q H1 (Ex.refl H1)⟩))) (by rw [hb0]; simp)) (fun z => nomatch z) (fun _ G1 e1 => ?_)
        refine ⟨_, rfl, _, rfl, by show 3 ≤ sizeLine; decide, fun p hp => ?_⟩
        have e3 := Ex.new (o := .tup [.str "either", fv, wv]) hp
        have e13 := ey.trans (e1.trans e3)
        refine ⟨.ref p, _, _, _, rfl, ex.trans e13, .inr ⟨by omega, .either D W, .either upd_same (dD.mono (TupEx.of e13)) (dW.mono (TupEx.of (e1.trans e3))), by show max D.deep W.deep + 1 ≤ _; omega, ⟨ov, ow⟩, fun S => ?_⟩⟩
        rw [tk]
        show (D.Sat S ∨ W.Sat S) ↔ _
        rw [sat S, satW S]
        constructor
        · rintro (⟨a, ha, h⟩ | h)
          · exact ⟨a, List.mem_append_left _ ha, h⟩
          · exact ⟨lt, List.mem_append_right _ (List.mem_singleton.mpr rfl), h⟩
        · rintro ⟨a, ha, h⟩
          rcases List.mem_append.mp ha with k | k
          · exact .inl ⟨a, k, h⟩
          · rw [List.mem_singleton.mp k] at h
            exact .inr h
  · rintro σ' H' ⟨fv, x2, x3, x4, rfl, ex, iw⟩
    rcases iw with ⟨i0, _⟩ | ⟨_, D, dD, dd, ov, sat⟩
    · exfalso
      rw [← lu] at i0
      exact ne (List.length_eq_zero_iff.mp i0)
    · rw [← lu] at dd sat
      rw [List.take_length] at sat
      exact s_ret (ev_var rfl) fun H5 e5 => k fv D H5 (ex.trans e5) (dD.mono (TupEx.of e5)) (by omega) ov sat
end
end K10
set_option maxHeartbeats 4000000
/-! The law. -/
namespace K10
open PySem PySem.Spec PyProof.Rows L2 Evl LL
theorem HandC.apart {H : Hp} {l c : Addr} (h : HandC H l c) : Apart l H := by
  obtain ⟨xs, hx⟩ := h.lst
  exact ⟨_, hx, nofun⟩
abbrev S10 (a0 : V) (l : Addr) (x2 x3 x4 x5 x6 x7 x8 x9 : Option V) : L2.St := [some a0, some (.ref l), x2, x3, x4, x5, x6, x7, x8, x9]
theorem Dm.sat_top : ∀ d : Dm, d.Sat fun _ => True
  | .claim _ _ => trivial
  | .both a b => ⟨a.sat_top, b.sat_top⟩
  | .either a _ => .inl a.sat_top
theorem lots_lay : ∀ L : List Lot, (∀ a ∈ L, Wo a) → PyData.canLayAll0 (L.map lotD) = true ∧ PyData.depthAll (L.map lotD) ≤ 3
  | [], _ => by simp [PyData.canLayAll0, PyData.depthAll]
  | x :: L, h => by
    have a := lots_lay L fun y hy => h y (List.mem_cons_of_mem _ hy)
    have b := pls_lay x (h x List.mem_cons_self)
    simp only [List.map_cons, PyData.canLayAll0, PyData.depthAll, lotD, PyData.canLay0, PyData.depth, a.1, b.1]
    exact ⟨rfl, by have := a.2; have := b.2; omega⟩
theorem due_shaped {L : List Lot} (h : ∀ a ∈ L, Wo a) : SeqAt.shaped (dueD L) = true := by
  obtain ⟨x, y⟩ := lots_lay L h
  simp only [SeqAt.shaped, dueD, PyData.canLay0, PyData.depth, x, Bool.true_and]
  exact decide_eq_true (by omega)
theorem due_dp {K : PySem.W.Frag} {H : Hp} {q : Addr} {us : List V} {L : List Lot} (hq : H q = some (.tup us)) (al : All2 (L.map IsLot) us H) : Dp K H (.ref q) (dueD L) := by
  refine .tup (st_of hq) ?_
  clear hq
  induction L generalizing us with
  | nil => cases al; exact .nil
  | cons a L ih =>
    cases al with
    | cons h hs => exact .cons (lot_dp h) (ih hs)
/-- what is due stands -/
structure Dd (H : Hp) (D : Dm) (q : Addr) (us : List V) (L : List Lot) : Prop where
  at_ : H q = some (.tup us)
  all_ : All2 (L.map IsLot) us H
  due : Due (some D) L
theorem Dd.ex {H H' : Hp} {D : Dm} {q : Addr} {us : List V} {L : List Lot} (h : Dd H D q us L) (t : TupEx H H') : Dd H' D q us L := ⟨t _ _ h.at_, All2.monT lots_monT t h.all_, h.due⟩
def nmL : List Str := ["small", "plain", "both", "claim", "either"]
theorem nmL_ok : ∀ s ∈ nmL, WordOk s := fun s hs => by
  simp only [nmL, List.mem_cons, List.not_mem_nil, or_false] at hs
  rcases hs with rfl | rfl | rfl | rfl | rfl
  · exact wok "small"
  · exact wok "plain"
  · exact wok "both"
  · exact wok "claim"
  · exact wok "either"
theorem perm_strs {ys : List V} {ss : List Str} (h : ys.Perm (ss.map V.str)) : ∃ ms : List Str, ys = ms.map V.str ∧ ms.length = ss.length ∧ ∀ s ∈ ms, s ∈ ss := by
  have all_ : ∀ y ∈ ys, ∃ s ∈ ss, y = V.str s := fun y hy => by
    obtain ⟨s, hs, e⟩ := List.mem_map.mp (h.mem_iff.mp hy)
    exact ⟨s, hs, e.symm⟩
  have ln := h.length_eq
  rw [List.length_map] at ln
  clear h
  have : ∃ ms : List Str, ys = ms.map V.str ∧ ∀ s ∈ ms, s ∈ ss := by
    clear ln
    induction ys with
    | nil => exact ⟨[], rfl, nofun⟩
    | cons y ys ih =>
      obtain ⟨s, hs, rfl⟩ := all_ y List.mem_cons_self
      obtain ⟨ms, rfl, hm⟩ := ih fun z hz => all_ z (List.mem_cons_of_mem _ hz)
      refine ⟨s :: ms, rfl, fun z hz => ?_⟩
      rcases List.mem_cons.mp hz with e | e
      · rw [e]; exact hs
      · exact hm z e
  obtain ⟨ms, rfl, hm⟩ := this
  exact ⟨ms, rfl, by simpa using ln, hm⟩
/-- names -/
structure W1 (l : Addr) (H : Hp) (p : Addr) (nms : List Str) : Prop where
  ne : p ≠ l
  at_ : H p = some (.lst (nms.map V.str))
  n0 : nms ≠ []
  few : nms.length ≤ 5
  ok : ∀ s ∈ nms, WordOk s
theorem W1.mono {l : Addr} {H H' : Hp} {p : Addr} {nms : List Str} (e : Exl l H H') (h : W1 l H p nms) : W1 l H' p nms := ⟨h.ne, e _ _ h.ne h.at_, h.n0, h.few, h.ok⟩
def spLaw (K : PySem.W.Frag) : Sp := fun vs H Q _ => ∃ (a : Addr) (ns : List Int), vs = [.ref a] ∧ SqL K H a (ns.map V.int) ∧ ns.length ≤ 63 ∧ ∀ H', Q (.bl true) H'
structure Flw (P : Program) (w : World) (K : PySem.W.Frag) (mg : Str → Option Value) (base : Heap) : Prop where
  range : mg "range" = none
  h_law_hand : Has P w K mg base CX0 "_law_hand" 1 ["script"] (spHand K)
  h_law_draw : Has P w K mg base CX0 "_law_draw" 1 ["hand", "many"] spDraw
  h_law_some : Has P w K mg base CX0 "_law_some" 2 ["hand", "things"] spSome
  h_law_mixed : Has P w K mg base CX0 "_law_mixed" 2 ["hand", "things"] spMixed
  h_law_demand : Has P w K mg base CX0 "_law_demand" 7 ["hand", "pool", "deep"] (spDem 4)
  h_law_wide : Has P w K mg base CX0 "_law_wide" 3 ["hand", "word", "other"] spWide
  h_law_otherwise : Has P w K mg base CX0 "_law_otherwise" 8 ["hand", "demand", "pool", "deep"] spOth
  h_law_neat : Has P w K mg base CX0 "_law_neat" 25 ["demand"] (spLNeat 24)
  h_law_of_lots : Has P w K mg base CX0 "_law_of_lots" 1 ["lots"] spOf
  h_law_demand_deep : Has P w K mg base CX0 "_law_demand_deep" 24 ["demand"] (spDeep 24)
  hneat : Has P w K mg base CX0 "neat" 3 ["demand"] spNeat
  h_law_is_right : HasG P w K mg base CX0 "_law_is_right" 5 ["demand", "due"] spRight
section
variable {P : Program} {w : World} {K : PySem.W.Frag} {mg : Str → Option Value} {base : Heap} {f : Addr} {fd : FuncData}
theorem scLaw : FnScope ["script", "hand", "demand", "turn", "names", "many", "pool", "due", "whole", "claim"] ["script"] (defScope (top 23)) := ⟨rfl, rfl, rfl, by decide +kernel, rfl, by decide +kernel, by decide +kernel⟩
theorem ok_law (F : FnT K "law" (top 23) f fd) (T : Flw P w K mg base) : FnG P w K mg base CX0 26 f fd ["script"] (spLaw K) := by
  have sc := scLaw
  refine fnG_of F scLaw (fun {vs H Q E} h => ?_) (fun cdv A outer s H vs Q E hg hr h => ?_)
  · obtain ⟨a, ns, rfl, _⟩ := h
    rfl
  have hG := guards_deeper (env := envOfC "law" (defScope (top 23)) s.heap.objs.size f cdv) hg
  refine ⟨_, PSs.nox (pss_cons (ps_set (i := 1) sc.nd rfl (Or.inr rfl) (pe_callH T.h_law_hand hr pass0 (pa_cons (pv 0) pa_nil)))
      (pss_cut (ps_for PassesOwn.never rfl (pi_tup (pe_tup (pa_cons (pe_callH T.h_law_wide hr pass0 (pa_cons (pv 1) (pa_cons pe_str (pa_cons pe_str pa_nil)))) (pa_cons (pe_callH T.h_law_wide hr pass0 (pa_cons (pv 1) (pa_cons pe_str (pa_cons pe_str pa_nil)))) pa_nil)))) (pg_name (i := 2) sc.nd rfl (Or.inl rfl)) (pss_one (ps_if (pt_not (pt_val (pe_callHG T.h_law_is_right hG hr pass0 (pa_cons (pv 2) (pa_cons (pe_callH T.h_law_neat hr pass0 (pa_cons (pv 2) pa_nil)) pa_nil))))) (pss_one (ps_ret pe_bl)) pss_nil)))
      (pss_cons (ps_for PassesOwn.never rfl (pi_range1 (by rfl) T.range (pa_cons pe_int pa_nil)) (pg_name (i := 3) sc.nd rfl (Or.inl rfl)) (pss_cut (ps_set (i := 4) sc.nd rfl (Or.inr rfl) (pe_slice sl_list (pe_callH T.h_law_mixed hr pass0 (pa_cons (pv 1) (pa_cons (pe_lst (pa_cons pe_str (pa_cons pe_str (pa_cons pe_str (pa_cons pe_str (pa_cons pe_str pa_nil)))))) pa_nil))) po_none (po_some (pe_op op_add pe_int (pe_callH T.h_law_draw hr pass0 (pa_cons (pv 1) (pa_cons pe_int pa_nil)))))))
      (pss_cons (ps_set (i := 5) sc.nd rfl (Or.inl rfl) (pe_callH T.h_law_some hr pass0 (pa_cons (pv 1) (pa_cons (pe_lst (pa_cons pe_int (pa_cons pe_int (pa_cons pe_int (pa_cons pe_int (pa_cons pe_int (pa_cons pe_int pa_nil))))))) pa_nil))))
      (pss_cut (ps_setLc (i := 6) (own := [("claim", 9)]) (tt := tYes) rfl sc.nd rfl rfl (sw_true rfl rfl rfl (by decide +kernel)) (pi_range1 (by rfl) T.range (pa_cons (pv 5) pa_nil)) (blkOk_by (N := ["script", "hand", "demand", "turn", "names", "many", "pool", "due", "whole", "claim"]) (sc := defScope (top 23)) (by decide +kernel)) (fun _ _ _ _ _ => (pg_name (i := 9) sc.nd rfl (Or.inl rfl))) (fun _ _ _ _ _ => pts_nil) (fun _ _ _ _ _ => (pe_tup (pa_cons (pe_callH T.h_law_some hr pass0 (pa_cons (pv 1) (pa_cons (pv 4) pa_nil))) (pa_cons (pe_callH T.h_law_some hr pass0 (pa_cons (pv 1) (pa_cons (pe_lst (pa_cons pe_int (pa_cons pe_int (pa_cons pe_int (pa_cons pe_int (pa_cons pe_int pa_nil)))))) pa_nil))) pa_nil)))))
      (pss_cut (ps_set (i := 2) sc.nd rfl (Or.inl rfl) (pe_callH T.h_law_demand hr pass0 (pa_cons (pv 1) (pa_cons (pv 6) (pa_cons pe_int pa_nil)))))
      (pss_cons (ps_set (i := 7) sc.nd rfl (Or.inl rfl) (pe_callH T.h_law_neat hr pass0 (pa_cons (pv 2) pa_nil)))
      (pss_cons (ps_if (PW.pt (pw_or (pt_not (pt_val (pe_callHG T.h_law_is_right hG hr pass0 (pa_cons (pv 2) (pa_cons (pv 7) pa_nil))))) (pw_or1 (pt_not (pt_val (pe_callHG T.h_law_is_right hG hr pass0 (pa_cons (pe_callH T.h_law_otherwise hr pass0 (pa_cons (pv 1) (pa_cons (pv 2) (pa_cons (pv 6) (pa_cons pe_int pa_nil))))) (pa_cons (pv 7) pa_nil)))))))) (pss_one (ps_ret pe_bl)) pss_nil)
      (pss_cons (ps_set (i := 8) sc.nd rfl (Or.inl rfl) (pe_callH T.h_law_of_lots hr pass0 (pa_cons (pe_callH T.hneat hr pass0 (pa_cons (pv 2) pa_nil)) pa_nil)))
      (pss_one (ps_if (PW.pt (pw_or (pt_cmpR (op_neD hr.units) (pe_callH T.h_law_neat hr pass0 (pa_cons (pv 8) pa_nil)) (pv 7) (nomark _)) (pw_or1 (PW.pt (pw_and (pt_cmpR op_lt (pe_callH T.h_law_demand_deep hr pass0 (pa_cons (pv 8) pa_nil)) pe_int (nomark _)) (pw_and1 (pt_not (pt_val (pe_callHG T.h_law_is_right hG hr pass0 (pa_cons (pv 8) (pa_cons (pv 7) pa_nil))))))))))) (pss_one (ps_ret pe_bl)) pss_nil))))))))))
      (pss_one (ps_ret (pe_callHG T.h_law_is_right hG hr pass0 (pa_cons pe_non (pa_cons (pe_tup (pa_cons (pe_tup pa_nil) pa_nil)) pa_nil)))))))), ?_⟩
  obtain ⟨a, ns0, rfl, hS, hl, k⟩ := h
  refine q_asgQ ?_
  refine ⟨_, rfl, a, ns0, rfl, hS, hl, fun l H1 hl1 e1 hh1 => ?_⟩
  obtain ⟨c, hh1⟩ := hh1
  dsimp only
  -- the wide ones
  refine q_cut (M := fun σ' H' => ∃ (x2 x3 x4 x5 x6 x7 x8 x9 : Option V), σ' = S10 (.ref a) l x2 x3 x4 x5 x6 x7 x8 x9 ∧ HandC H' l c) ?wide ?r1
  case wide =>
    refine ⟨_, rfl, l, c, false, true, rfl, hh1, fun v x y Ha xa hha dv dx dy ox oy => ?_⟩
    refine ⟨_, rfl, l, c, true, false, rfl, hha, fun v2 x' y' Hb xb hhb dv2 dx2 dy2 ox2 oy2 => ⟨by show 2 ≤ sizeLine; decide, fun tp htp => ?_⟩⟩
    have ep := Ex.new (o := .tup [v, v2]) htp
    have t2 := (exl_tup hha xb).trans (TupEx.of ep)
    have hh2 := hhb.mono ep
    have all_ : ∀ u ∈ [v, v2], ∃ D, Dv (L2.upd Hb tp (.tup [v, v2])) u D ∧ D.deep ≤ 4 ∧ D.Over wPool := fun u hu => by
      simp only [List.mem_cons, List.not_mem_nil, or_false] at hu
      rcases hu with rfl | rfl
      · exact ⟨_, dv.mono t2, by rw [mkD_deep]; omega, (mkD_over _ _ _ _).mpr ⟨ox, oy⟩⟩
      · exact ⟨_, dv2.mono (TupEx.of ep), by rw [mkD_deep]; omega, (mkD_over _ _ _ _).mpr ⟨ox2, oy2⟩⟩
    have htp2 : L2.upd Hb tp (.tup [v, v2]) tp = some (.tup [v, v2]) := upd_same
    revert hh2 all_ htp2
    generalize L2.upd Hb tp (.tup [v, v2]) = H2
    intro hh2 all_ htp2
    refine ⟨tp, rfl, ⟨_, st_of htp2⟩, for_it (walk_tup (xs := [v, v2])) (fun i σ' H' => ∃ x2, σ' = S10 (.ref a) l x2 none none none none none none none ∧ Ex H2 H') ?_ ?_ ?_ ?_⟩
    · exact ⟨_, rfl, Ex.refl H2⟩
    · rintro i σ' G hi ⟨_, _, ex⟩
      exact st_of (ex _ _ htp2)
    · rintro i u σ' G G' hi ⟨y2, rfl, ex⟩ ⟨rfl, hx⟩
      obtain ⟨D, dv, dd, ov⟩ := all_ u (List.mem_of_getElem? hx)
      have dv := dv.mono (TupEx.of ex)
      have hhG := hh2.mono ex
      refine s_when (b := false) (fun H1 e Q q => ⟨_, rfl, _, rfl, u, D, wPool, rfl, dv.mono (TupEx.of e), by omega, ov, by decide, wPool_ok.wo, fun q2 us L H3 e3 hq aL ok mem => ⟨u, some D, l, q2, us, L, wPool, rfl, ((hhG.mono e).mono e3).apart, (dv.mono (TupEx.of e)).mono (TupEx.of e3), dd, ov, wPool_ok, hq, aL, ⟨ok, mem⟩, fun H4 e4 => ⟨true, rfl, q H4 (e3.trans e4)⟩⟩⟩) (fun z => nomatch z) (fun _ G2 e2 => ?_)
      exact ⟨_, rfl, ex.trans e2⟩
    · rintro σ' G ⟨y2, rfl, ex⟩
      exact ⟨_, _, _, _, _, _, _, _, rfl, hh2.mono ex⟩
  case r1 =>
  rintro σ' H3 ⟨x2, x3, x4, x5, x6, x7, x8, x9, rfl, hh3⟩
  refine ⟨7, rfl, by decide, by decide, for_it (walk_range (lo := 0) (n := 7)) (fun i σ' H' => ∃ (x2 x3 x4 x5 x6 x7 x8 x9 : Option V), σ' = S10 (.ref a) l x2 x3 x4 x5 x6 x7 x8 x9 ∧ HandC H' l c) ?_ ?_ ?_ ?_⟩
  · exact ⟨_, _, _, _, _, _, _, _, rfl, hh3⟩
  · exact fun _ _ _ _ _ => trivial
  · rintro i x σ' H2 H2' hi ⟨x2, x3, x4, x5, x6, x7, x8, x9, rfl, hh⟩ ⟨rfl, _⟩
    -- names
    refine q_cut (M := fun σ' H' => ∃ (p1 : Addr) (nms : List Str) (x2 x3 x5 x6 x7 x8 x9 : Option V), σ' = S10 (.ref a) l x2 x3 (some (.ref p1)) x5 x6 x7 x8 x9 ∧ HandC H' l c ∧ W1 l H' p1 nms) ?names ?r3
    case names =>
      refine s_asgQ ?_
      refine ⟨_, rfl, by show 5 ≤ sizeLine; decide, fun q hq => ⟨l, c, q, nmL.map V.str, rfl, (hh.new hq).1, upd_same, by decide, hh.mono (Ex.new hq), fun m ys H3 pm nm xm hh3 hm => ?_⟩⟩
      obtain ⟨ms, rfl, lm, hms⟩ := perm_strs pm
      have lm : ms.length = 5 := lm
      have mn := (hh.mono (Ex.new hq)).new nm
      refine ⟨_, rfl, l, c, 3, rfl, by decide, by decide, hh3, fun d H4 d0 d4 x4' hh4 => ⟨1, d, rfl, rfl, _, rfl, m, _, rfl, sq_of (x4' _ _ mn.1 hm), fun p hp => ?_⟩⟩
      obtain ⟨j, hj⟩ : ∃ j : Nat, 1 + d = (j : Int) := ⟨(1 + d).toNat, by omega⟩
      rw [hj, cut_to (by rw [List.length_map]; omega), ← List.map_take]
      have ep := Ex.new (o := .lst ((ms.take j).map V.str)) hp
      refine ⟨p, ms.take j, _, _, _, _, _, _, _, rfl, hh4.mono ep, (hh4.new hp).1, upd_same, ?_, by rw [List.length_take]; omega, fun z hz => nmL_ok z (hms z (List.mem_of_mem_take hz))⟩
      intro z
      have := congrArg List.length z
      rw [List.length_take, List.length_nil] at this
      omega
    case r3 =>
    rintro σ' H3 ⟨p1, nms, x2, x3, x5, x6, x7, x8, x9, rfl, hh3, w1⟩
    -- how many
    refine q_asgQ ?_
    refine ⟨_, rfl, by show 6 ≤ sizeLine; decide, fun q hq => ⟨l, c, q, _, rfl, (hh3.new hq).1, .inl upd_same, by simp, by show 6 ≤ 100000; decide, hh3.mono (Ex.new hq), fun mv H4 hmv x4' hh4 => ?_⟩⟩
    obtain ⟨many, rfl, m1, m6⟩ : ∃ many : Nat, mv = .int (many : Int) ∧ 1 ≤ many ∧ many ≤ 6 := by
      simp only [List.mem_cons, List.not_mem_nil, or_false] at hmv
      rcases hmv with rfl | rfl | rfl | rfl | rfl | rfl
      · exact ⟨1, rfl, by decide, by decide⟩
      · exact ⟨3, rfl, by decide, by decide⟩
      · exact ⟨5, rfl, by decide, by decide⟩
      · exact ⟨6, rfl, by decide, by decide⟩
      · exact ⟨6, rfl, by decide, by decide⟩
      · exact ⟨6, rfl, by decide, by decide⟩
    have w1' := w1.mono ((Exl.of (Ex.new (o := .lst [V.int 1, .int 3, .int 5, .int 6, .int 6, .int 6]) hq)).trans x4')
    dsimp only
    -- the pool of claims
    refine q_cut (M := fun σ' H' => ∃ (p3 : Addr) (zs : List V) (ps : Pool) (x2 x3 x4 x5 x7 x8 x9 : Option V), σ' = S10 (.ref a) l x2 x3 x4 x5 (some (.ref p3)) x7 x8 x9 ∧ HandC H' l c ∧ Po l H' p3 zs ps) ?pool ?r4
    case pool =>
      refine s_asgQ ?_
      refine ⟨_, rfl, (many : Int), rfl, by omega, by omega, fun Dl hD => ?_⟩
      obtain ⟨dl, dc⟩ := hh4.new hD
      refine lcJ walk_range (fun i zs G => ∃ ps : Pool, All2 (ps.map IsPl) zs G ∧ ps.length = i ∧ (∀ x ∈ ps, WordOk x.1 ∧ x.2.natAbs < 10 ^ 30) ∧ Exl l H4 G ∧ HandC G l c) ?_ (fun _ _ _ _ _ => trivial) ?_ ?_
      · exact ⟨[], .nil, rfl, nofun, Exl.of (Ex.new hD), hh4.mono (Ex.new hD)⟩
      · rintro i x zs G G' hi lz hDl ⟨ps, al, lp, in_, ex, hhg⟩ ⟨rfl, _⟩
        refine ⟨rfl, ?_⟩
        have wg1 := w1'.mono ex
        have hi : i < (many : Int).toNat := hi
        refine ⟨_, rfl, _, rfl, l, c, p1, nms.map V.str, rfl, wg1.ne, .inl wg1.at_, by simpa using wg1.n0, by rw [List.length_map]; have := wg1.few; omega, hhg, fun u H6 hu x6' hh6 => ?_⟩
        obtain ⟨nm, hnm, rfl⟩ := List.mem_map.mp hu
        refine ⟨_, rfl, by show 5 ≤ sizeLine; decide, fun q2 hq2 => ⟨l, c, q2, _, rfl, (hh6.new hq2).1, .inl upd_same, by simp, by show 5 ≤ 100000; decide, hh6.mono (Ex.new hq2), fun v H7 hv x7' hh7 => ?_⟩⟩
        have x7' := (Exl.of (l := l) (Ex.new (o := .lst [V.int 0, .int 1, .int 2, .int 10, .int 19]) hq2)).trans x7'
        obtain ⟨n, rfl, hn⟩ : ∃ n : Int, v = .int n ∧ n.natAbs < 10 ^ 30 := by
          simp only [List.mem_cons, List.not_mem_nil, or_false] at hv
          rcases hv with rfl | rfl | rfl | rfl | rfl
          · exact ⟨0, rfl, by decide⟩
          · exact ⟨1, rfl, by decide⟩
          · exact ⟨2, rfl, by decide⟩
          · exact ⟨10, rfl, by decide⟩
          · exact ⟨19, rfl, by decide⟩
        refine ⟨by show 2 ≤ sizeLine; decide, fun t ht => ?_⟩
        have et := Ex.new (o := .tup [.str nm, .int n]) ht
        have hD7 := et _ _ ((x6'.trans x7') _ _ dl hDl)
        have tl := TupEx.lst (ys := zs ++ [.ref t]) hD7
        have tt := ((exl_tup hhg (x6'.trans x7')).trans (TupEx.of et)).trans tl
        refine NxL.of lz (by omega) hD7 ⟨ps ++ [(nm, n)], ?_, by rw [List.length_append, List.length_singleton, lp], fun z hz => ?_, fun b o nb hb => ?_, (hh7.mono et).own dl dc⟩
        · rw [List.map_append]
          exact All2.app (All2.monT pool_monT tt al) (.cons ⟨t, rfl, tl _ _ upd_same⟩ .nil)
        · rcases List.mem_append.mp hz with q | q
          · exact in_ z q
          · rw [List.mem_singleton.mp q]
            exact ⟨w1.ok nm hnm, hn⟩
        · rw [upd_ne (fun q => by rw [q, hD] at hb; cases hb)]
          exact et _ _ ((x6'.trans x7') _ _ nb (ex _ _ nb hb))
      · rintro zs G lz hDl ⟨ps, al, lp, in_, ex, hhg⟩
        have lp : ps.length = many := by rw [lp]; omega
        have lz : zs.length = many := by rw [lz]; omega
        exact ⟨Dl, zs, ps, _, _, _, _, _, _, _, rfl, hhg, dl, hDl, al, (fun z => by rw [z, List.length_nil] at lz; omega), by omega, in_⟩
    case r4 =>
    rintro σ' H5 ⟨p3, zs, ps, x2, x3, x4, x5, x7, x8, x9, rfl, hh5, po⟩
    have pn : PoN ps := ⟨po.few, po.nm⟩
    -- the demand
    refine q_cut (M := fun σ' H' => ∃ (v : V) (D : Dm) (x3 x4 x5 x7 x8 x9 : Option V), σ' = S10 (.ref a) l (some v) x3 x4 x5 (some (.ref p3)) x7 x8 x9 ∧ HandC H' l c ∧ Po l H' p3 zs ps ∧ Dv H' v D ∧ D.deep ≤ 4 ∧ D.Over ps) ?demand ?r5
    case demand =>
      refine s_asgQ ?_
      refine ⟨_, rfl, _, rfl, l, c, p3, 4, zs, ps, rfl, by decide, by decide, hh5, po.ne, po.at_, po.n0, by have := po.lz; omega, po.all_, fun v D H7 x7' hh7 dv ov dp => ?_⟩
      exact ⟨v, D, _, _, _, _, _, _, rfl, hh7, po.mono x7' (exl_tup hh5 x7'), dv, dp, ov⟩
    case r5 =>
    rintro σ' H6 ⟨v, D, x3, x4, x5, x7, x8, x9, rfl, hh6, po, dv, dp, ov⟩
    -- what is due
    refine q_asgQ ?_
    refine ⟨_, rfl, v, D, ps, rfl, dv, by omega, ov, pn.few, pn.wo, fun dq us L H7 e7 hdq aL okL memL => ?_⟩
    have dd : Dd H7 D dq us L := ⟨hdq, aL, okL, memL⟩
    have hh7 := hh6.mono e7
    have dv7 := dv.mono (TupEx.of e7)
    have po7 := po.mono (Exl.of e7) (TupEx.of e7)
    dsimp only
    -- right, also otherwise written
    refine ifS_or (b := false) (fun H1 e Q q => ⟨_, rfl, _, rfl, v, some D, l, dq, us, L, ps, rfl, (hh7.mono e).apart, dv7.mono (TupEx.of e), dp, ov, pn, (dd.ex (TupEx.of e)).at_, (dd.ex (TupEx.of e)).all_, dd.due, fun H4 e4 => ⟨true, rfl, q H4 e4⟩⟩) (fun z => nomatch z) (fun _ H8 e8 => ?_)
    have hh8 := hh7.mono e8
    have po8 := po7.mono (Exl.of e8) (TupEx.of e8)
    have dv8 := dv7.mono (TupEx.of e8)
    refine ⟨_, rfl, _, rfl, _, rfl, l, c, p3, v, D, zs, ps, rfl, hh8, dv8, dp, po8, ov, fun v' D' H9 x9' hh9 dv' dp' ov' sa' => ?_⟩
    have t89 := (TupEx.of e8).trans (exl_tup hh8 x9')
    have dd9 := dd.ex t89
    refine ⟨_, rfl, v', some D', l, dq, us, L, ps, rfl, hh9.apart, dv', dp', ov', pn, dd9.at_, dd9.all_, dd9.due.cong fun S => (sa' S).symm, fun H10 e10 => ⟨true, rfl, ?_⟩⟩
    have hh10 := hh9.mono e10
    have dd10 := dd9.ex (TupEx.of e10)
    have dv10 := (dv7.mono t89).mono (TupEx.of e10)
    dsimp only
    rw [if_neg (by decide)]
    dsimp only [tNext]
    refine q_asgQ ?_
    refine ⟨_, rfl, v, some D, rfl, dv10, dp, fun z hz => pn.wo z ((Dm.over_iff D).mp ov z hz), fun lq lus Lz H11 e11 hlq aL2 gd => ?_⟩
    have eL := gd.due.uniq dd.due
    subst eL
    have c8 := cl8 (o := some D) dp
    have nonempty : Lz ≠ [] := fun z => by
      obtain ⟨b, hb, _⟩ := (gd.sat fun _ => True).mp D.sat_top
      rw [z] at hb
      cases hb
    refine ⟨lq, lus, Lz, ps, rfl, hlq, aL2, nonempty, gd.len16 dp, fun b hb => ⟨gd.ne b hb, by have := gd.few b hb; omega, fun z hz => (Dm.over_iff D).mp ov z (gd.in_ b hb z hz)⟩, fun wv W H12 e12 dw deepW ovW satW => ?_⟩
    have hh12 := hh10.mono (e11.trans e12)
    have dd12 := dd10.ex (TupEx.of (e11.trans e12))
    have same : ∀ S, SatO S (some W) ↔ SatO S (some D) := fun S => (satW S).trans (gd.sat S).symm
    have dueW : Due (some W) Lz := dd.due.cong fun S => (same S).symm
    have Lwo : ∀ b ∈ Lz, Wo b := fun b hb z hz => pn.wo z ((Dm.over_iff D).mp ov z (gd.in_ b hb z hz))
    have sh := due_shaped Lwo
    dsimp only
    -- the law's own of the whole is what is due
    have first : ∀ (E0 : XK) (σ0 : L2.St), σ0[8]? = some (some wv) → σ0[7]? = some (some (.ref dq)) → EvT (tTest (tOp (rNeD K) (tCall (spLNeat 24) [] E0 (tCons (tVar 8) tNil)) (tVar 7))) σ0 H12 false := fun E0 σ0 h8 h7 H1 e Q q =>
      ⟨_, h8, wv, W, ps, rfl, dw.mono (TupEx.of e), deepW, ovW, pn.few, pn.wo, fun p4 us4 L4 H4 e4 hp4 aL4 ok4 mem4 => by
        have eL4 := (Due.mk ok4 mem4).uniq dueW
        subst eL4
        have d4 := dd12.ex (TupEx.of (e.trans e4))
        refine ⟨_, h7, dueD L4, dueD L4, due_dp hp4 aL4, due_dp d4.at_ d4.all_, sh, sh, _, rfl, ?_⟩
        have z : (!PyData.eqv (dueD L4) (dueD L4)) = false := by rw [SeqAt.eqv_refl _ (SeqAt.canLay_of_shaped sh)]; rfl
        rw [z]
        exact q H4 e4⟩
    have second : ∀ (E0 : XK) (σ0 : L2.St), σ0[8]? = some (some wv) → EvT (tTest (tOp (rI0 fun i j => .bl (decide (i < j))) (tCall (spDeep 24) [] E0 (tCons (tVar 8) tNil)) (tC (.int 5)))) σ0 H12 (decide (((W.deep : Nat) : Int) < 5)) := fun E0 σ0 h8 =>
      et_test (ev_op (fun H1 e Q q => ⟨_, h8, wv, W, rfl, dw.mono (TupEx.of e), deepW, fun H4 e4 => q H4 e4⟩) ev_c rv_I0)
    have third : ∀ (E0 : XK) (σ0 : L2.St), W.deep ≤ 4 → σ0[8]? = some (some wv) → σ0[7]? = some (some (.ref dq)) → EvT (tNot (tB (tCall spRight [] E0 (tCons (tVar 8) (tCons (tVar 7) tNil))))) σ0 H12 false := fun E0 σ0 w4 h8 h7 H1 e Q q =>
      ⟨_, h8, _, h7, wv, some W, l, dq, us, Lz, ps, rfl, (hh12.mono e).apart, dw.mono (TupEx.of e), w4, ovW, pn, (dd12.ex (TupEx.of e)).at_, (dd12.ex (TupEx.of e)).all_, dueW, fun H4 e4 => ⟨true, rfl, q H4 e4⟩⟩
    refine s_when (b := false) (et_is (et_or (a := false) (b := false) (first _ _ rfl rfl) (fun _ => et_is (et_and (a := decide (((W.deep : Nat) : Int) < 5)) (b := false) (second _ _ rfl) (fun hb => third _ _ (by have := of_decide_eq_true hb; omega) rfl rfl)) (by simp))) rfl) (fun z => nomatch z) (fun _ G2 e2 => ?_)
    exact ⟨_, _, _, _, _, _, _, _, rfl, hh12.mono e2⟩
  · rintro σ' H' ⟨x2, x3, x4, x5, x6, x7, x8, x9, rfl, hh⟩
    dsimp only
    refine ⟨by show 0 ≤ sizeLine; decide, fun t0 ht0 => ⟨by show 1 ≤ sizeLine; decide, fun t1 ht1 => ?_⟩⟩
    have e1 := Ex.new (o := .tup []) ht0
    have e2 := Ex.new (o := .tup [.ref t0]) ht1
    exact ⟨.non, none, l, t1, [.ref t0], [[]], [], rfl, ((hh.mono e1).mono e2).apart, rfl, by decide, trivial, ⟨by decide, nofun⟩, upd_same, .cons ⟨t0, [], rfl, e2 _ _ upd_same, .nil⟩ .nil, Gd.none_.due, fun H4 _ => k H4⟩
end
end K10
set_option maxHeartbeats 0
/-! What is asked of the head. -/
namespace K10
open PySem PySem.Spec PyProof.Rows L2
def dF (x : Str) (i : Nat) : He.DefD := ⟨(x, none), x, x, defArgs (top i), defBody (top i), defScope (top i), [], []⟩
def fn : List He.DefD := [dF "neat" 1, dF "demand_parts" 2, dF "joined" 3, dF "least_lots" 4, dF "has_all" 5, dF "_law_hand" 7, dF "_law_draw" 8, dF "_law_some" 9, dF "_law_mixed" 10, dF "_law_is" 11, dF "_law_demand" 12, dF "_law_demand_deep" 13, dF "_law_otherwise" 14, dF "_law_turned" 15, dF "_law_claims" 16, dF "_law_truth" 17, dF "_law_lots" 18, dF "_law_neat" 19, dF "_law_of_lots" 20, dF "_law_is_right" 21, dF "_law_wide" 22, dF "law" 23]
def freeN : List Str := ["len", "range", "isinstance", "repr", "sorted", "list", "tuple", "dict", "set", "zip", "enumerate", "all", "any", "int", "str", "abs", "max", "bool", "type", "ValueError"]
def fa : List He.Fa := fn.map (fun d => .glo d.name) ++ freeN.map .free
/-- the own Hook: HeadHook2's facts, and where the modules are kept -/
abbrev AlX : Type := Bool × He.AlD
def frX (g : Addr → Option Obj) (n : Nat) : PySem.W.Frag := He.frG g (sysModules :: He.asD g n)
def sysB (K : PySem.W.Frag) : Bool := match K.lookup sysModules with
  | some ⟨.type "dict", _, _, _⟩ => true
  | _ => false
def obsX (K : PySem.W.Frag) : AlX := (sysB K, He.obsD fa fn K)
def SaysX (K : PySem.W.Frag) : Prop := obsX K = (true, He.valD fn)
def obsXG (n : Nat) (g : Addr → Option Obj) : AlX := obsX (frX g n)
def hookX (n : Nat) : PySem.W.Hook where
  α := AlX
  obs := fun s => obsXG n s.heap.get?
  val := fun _ => (true, He.valD fn)
  says := fun _ h => ∃ K : PySem.W.Frag, K.In h ∧ SaysX K
  of := fun _ _ e => ⟨_, He.frG_in, e⟩
  keeps := fun _ _ _ ⟨K, hK, c⟩ k => ⟨K, PySem.W.Frag.In.keeps hK k, c⟩
abbrev R : PySem.W.OpenRow := PySem.W.OpenLaw.row PySem.Challenge.rw_nearestkinds_k10_whole_neat
abbrev hk : PySem.W.Hook := hookX 4
def ob (s : PySem.W.SharedT) : AlX := obsXG 4 (HandSHeadRun.getT s)
theorem ob_eq (s : PySem.W.SharedT) : ob s = hk.obs s.abs := by
  have e : HandSHeadRun.getT s = s.abs.heap.get? := funext (HandSHeadRun.getT_eq s)
  show obsXG 4 (HandSHeadRun.getT s) = obsXG 4 s.abs.heap.get?
  rw [e]
def loose : List Str := (fn.map (·.name)).filter (fun x => x != ("law" : Str))
abbrev qv : Program := PySem.W.view R.prog [23]
end K10
set_option maxHeartbeats 16000000
/-! The head's facts, given to the law. -/
namespace K10
open PySem PySem.Spec PyProof.Rows L2 Evl LL
theorem law_facts {P : Program} {w : World} {K : PySem.W.Frag} {h base : Heap} {mg : Str → Option Value} (X : K.In h) (G : h.Ns mainGlobals mg) (c : SaysX K) : Flw P w K mg base := by
  have c0 : (true, He.valD fn) = obsX K := Eq.symm c
  have cD : He.SaysD fa fn K := (congrArg (fun z : AlX => z.2) c0).symm
  have c2 : sysB K = true := (congrArg (fun z : AlX => z.1) c0).symm
  have sys : Sys K := by
    unfold sysB at c2
    split at c2
    · rename_i d dt sl ho
      exact ⟨_, ho, rfl⟩
    · cases c2
  have zlen : mg "len" = none := (He.free_ok X G (cD.fact 22 (f := .free "len") rfl))
  have zrange : mg "range" = none := (He.free_ok X G (cD.fact 23 (f := .free "range") rfl))
  have zisinstance : mg "isinstance" = none := (He.free_ok X G (cD.fact 24 (f := .free "isinstance") rfl))
  have zrepr : mg "repr" = none := (He.free_ok X G (cD.fact 25 (f := .free "repr") rfl))
  have zsorted : mg "sorted" = none := (He.free_ok X G (cD.fact 26 (f := .free "sorted") rfl))
  have zlist : mg "list" = none := (He.free_ok X G (cD.fact 27 (f := .free "list") rfl))
  have ztuple : mg "tuple" = none := (He.free_ok X G (cD.fact 28 (f := .free "tuple") rfl))
  have zdict : mg "dict" = none := (He.free_ok X G (cD.fact 29 (f := .free "dict") rfl))
  have zset : mg "set" = none := (He.free_ok X G (cD.fact 30 (f := .free "set") rfl))
  have zzip : mg "zip" = none := (He.free_ok X G (cD.fact 31 (f := .free "zip") rfl))
  have zenumerate : mg "enumerate" = none := (He.free_ok X G (cD.fact 32 (f := .free "enumerate") rfl))
  have zall : mg "all" = none := (He.free_ok X G (cD.fact 33 (f := .free "all") rfl))
  have zany : mg "any" = none := (He.free_ok X G (cD.fact 34 (f := .free "any") rfl))
  have zint : mg "int" = none := (He.free_ok X G (cD.fact 35 (f := .free "int") rfl))
  have zstr : mg "str" = none := (He.free_ok X G (cD.fact 36 (f := .free "str") rfl))
  have zabs : mg "abs" = none := (He.free_ok X G (cD.fact 37 (f := .free "abs") rfl))
  have zmax : mg "max" = none := (He.free_ok X G (cD.fact 38 (f := .free "max") rfl))
  have zbool : mg "bool" = none := (He.free_ok X G (cD.fact 39 (f := .free "bool") rfl))
  have ztype : mg "type" = none := (He.free_ok X G (cD.fact 40 (f := .free "type") rfl))
  have zValueError : mg "ValueError" = none := (He.free_ok X G (cD.fact 41 (f := .free "ValueError") rfl))
  have frh : FrH mg := ⟨zabs, zint, zlen, zrange, zisinstance, zValueError, zrepr, zenumerate, zany⟩
  have hhas_all : Has P w K mg base CX0 "has_all" 1 ["lot", "other"] spHas := by
    obtain ⟨fd, F⟩ := cD.def_ 4 (d := dF "has_all" 5) rfl
    exact ⟨_, fd, (He.glo_ok X G (cD.fact 4 (f := .glo "has_all") rfl)), F.kp, (F.bindsN fun _ _ _ _ _ _ us hl => match us, hl with | [_, _], _ => rfl), ok_has F ⟨zall⟩⟩
  have hleast_lots : Has P w K mg base CX0 "least_lots" 2 ["lots"] spLeast := by
    obtain ⟨fd, F⟩ := cD.def_ 3 (d := dF "least_lots" 4) rfl
    exact ⟨_, fd, (He.glo_ok X G (cD.fact 3 (f := .glo "least_lots") rfl)), F.kp, (F.bindsN fun _ _ _ _ _ _ us hl => match us, hl with | [_], _ => rfl), ok_least F ⟨zsorted, zset, zany, hhas_all⟩⟩
  have hjoined : Has P w K mg base CX0 "joined" 1 ["lots", "others"] spJoin := by
    obtain ⟨fd, F⟩ := cD.def_ 2 (d := dF "joined" 3) rfl
    exact ⟨_, fd, (He.glo_ok X G (cD.fact 2 (f := .glo "joined") rfl)), F.kp, (F.bindsN fun _ _ _ _ _ _ us hl => match us, hl with | [_, _], _ => rfl), ok_join F ⟨zsorted, zset, ztuple⟩⟩
  have hdemand_parts : Has P w K mg base CX0 "demand_parts" 1 ["demand"] spParts := by
    obtain ⟨fd, F⟩ := cD.def_ 1 (d := dF "demand_parts" 2) rfl
    exact ⟨_, fd, (He.glo_ok X G (cD.fact 1 (f := .glo "demand_parts") rfl)), F.kp, (F.bindsN fun _ _ _ _ _ _ us hl => match us, hl with | [_], _ => rfl), ok_parts F⟩
  have hneat : Has P w K mg base CX0 "neat" 3 ["demand"] spNeat := by
    obtain ⟨fd, F⟩ := cD.def_ 0 (d := dF "neat" 1) rfl
    exact ⟨_, fd, (He.glo_ok X G (cD.fact 0 (f := .glo "neat") rfl)), F.kp, (F.bindsN fun _ _ _ _ _ _ us hl => match us, hl with | [_], _ => rfl), ok_neat F ⟨ztuple, hdemand_parts, hjoined, hleast_lots⟩⟩
  have h_law_hand : Has P w K mg base CX0 "_law_hand" 1 ["script"] (spHand K) := by
    obtain ⟨fd, F⟩ := cD.def_ 5 (d := dF "_law_hand" 7) rfl
    exact ⟨_, fd, (He.glo_ok X G (cD.fact 5 (f := .glo "_law_hand") rfl)), F.kp, (F.bindsN fun _ _ _ _ _ _ us hl => match us, hl with | [_], _ => rfl), ok_hand F frh⟩
  have h_law_draw : Has P w K mg base CX0 "_law_draw" 1 ["hand", "many"] spDraw := by
    obtain ⟨fd, F⟩ := cD.def_ 6 (d := dF "_law_draw" 8) rfl
    exact ⟨_, fd, (He.glo_ok X G (cD.fact 6 (f := .glo "_law_draw") rfl)), F.kp, (F.bindsN fun _ _ _ _ _ _ us hl => match us, hl with | [_, _], _ => rfl), ok_draw F frh⟩
  have h_law_some : Has P w K mg base CX0 "_law_some" 2 ["hand", "things"] spSome := by
    obtain ⟨fd, F⟩ := cD.def_ 7 (d := dF "_law_some" 9) rfl
    exact ⟨_, fd, (He.glo_ok X G (cD.fact 7 (f := .glo "_law_some") rfl)), F.kp, (F.bindsN fun _ _ _ _ _ _ us hl => match us, hl with | [_, _], _ => rfl), ok_some F ⟨frh, h_law_draw⟩⟩
  have h_law_mixed : Has P w K mg base CX0 "_law_mixed" 2 ["hand", "things"] spMixed := by
    obtain ⟨fd, F⟩ := cD.def_ 8 (d := dF "_law_mixed" 10) rfl
    exact ⟨_, fd, (He.glo_ok X G (cD.fact 8 (f := .glo "_law_mixed") rfl)), F.kp, (F.bindsN fun _ _ _ _ _ _ us hl => match us, hl with | [_, _], _ => rfl), ok_mixed F ⟨zlen, zlist, zrange, h_law_draw⟩⟩
  have h_law_is : Has P w K mg base CX0 "_law_is" 4 ["told", "due"] (spIs 4) := by
    obtain ⟨fd, F⟩ := cD.def_ 9 (d := dF "_law_is" 11) rfl
    exact ⟨_, fd, (He.glo_ok X G (cD.fact 9 (f := .glo "_law_is") rfl)), F.kp, (F.bindsN fun _ _ _ _ _ _ us hl => match us, hl with | [_, _], _ => rfl), is_all F zisinstance ztuple zlist zbool zint zlen zall zzip (He.glo_ok X G (cD.fact 9 (f := .glo "_law_is") rfl)) F.kp (F.bindsN fun _ _ _ _ _ _ us hl => match us, hl with | [_, _], _ => rfl) 4⟩
  have h_law_demand : Has P w K mg base CX0 "_law_demand" 7 ["hand", "pool", "deep"] (spDem 4) := by
    obtain ⟨fd, F⟩ := cD.def_ 10 (d := dF "_law_demand" 12) rfl
    exact ⟨_, fd, (He.glo_ok X G (cD.fact 10 (f := .glo "_law_demand") rfl)), F.kp, (F.bindsN fun _ _ _ _ _ _ us hl => match us, hl with | [_, _, _], _ => rfl), dem_all F h_law_draw h_law_some (He.glo_ok X G (cD.fact 10 (f := .glo "_law_demand") rfl)) F.kp (F.bindsN fun _ _ _ _ _ _ us hl => match us, hl with | [_, _, _], _ => rfl) 4⟩
  have h_law_demand_deep : Has P w K mg base CX0 "_law_demand_deep" 4 ["demand"] (spDeep 4) := by
    obtain ⟨fd, F⟩ := cD.def_ 11 (d := dF "_law_demand_deep" 13) rfl
    exact ⟨_, fd, (He.glo_ok X G (cD.fact 11 (f := .glo "_law_demand_deep") rfl)), F.kp, (F.bindsN fun _ _ _ _ _ _ us hl => match us, hl with | [_], _ => rfl), deep_all F zmax (He.glo_ok X G (cD.fact 11 (f := .glo "_law_demand_deep") rfl)) F.kp (F.bindsN fun _ _ _ _ _ _ us hl => match us, hl with | [_], _ => rfl) 4⟩
  have h_law_turned : Has P w K mg base CX0 "_law_turned" 5 ["hand", "demand"] (spTurned 4) := by
    obtain ⟨fd, F⟩ := cD.def_ 13 (d := dF "_law_turned" 15) rfl
    exact ⟨_, fd, (He.glo_ok X G (cD.fact 13 (f := .glo "_law_turned") rfl)), F.kp, (F.bindsN fun _ _ _ _ _ _ us hl => match us, hl with | [_, _], _ => rfl), turned_all F h_law_draw (He.glo_ok X G (cD.fact 13 (f := .glo "_law_turned") rfl)) F.kp (F.bindsN fun _ _ _ _ _ _ us hl => match us, hl with | [_, _], _ => rfl) 4⟩
  have h_law_otherwise : Has P w K mg base CX0 "_law_otherwise" 8 ["hand", "demand", "pool", "deep"] spOth := by
    obtain ⟨fd, F⟩ := cD.def_ 12 (d := dF "_law_otherwise" 14) rfl
    exact ⟨_, fd, (He.glo_ok X G (cD.fact 12 (f := .glo "_law_otherwise") rfl)), F.kp, (F.bindsN fun _ _ _ _ _ _ us hl => match us, hl with | [_, _, _, _], _ => rfl), ok_oth F ⟨zmax, h_law_draw, h_law_some, h_law_demand, h_law_demand_deep, h_law_turned⟩⟩
  have h_law_claims : Has P w K mg base CX0 "_law_claims" 24 ["demand"] (spClaims 24) := by
    obtain ⟨fd, F⟩ := cD.def_ 14 (d := dF "_law_claims" 16) rfl
    exact ⟨_, fd, (He.glo_ok X G (cD.fact 14 (f := .glo "_law_claims") rfl)), F.kp, (F.bindsN fun _ _ _ _ _ _ us hl => match us, hl with | [_], _ => rfl), claims_all F zsorted zset (He.glo_ok X G (cD.fact 14 (f := .glo "_law_claims") rfl)) F.kp (F.bindsN fun _ _ _ _ _ _ us hl => match us, hl with | [_], _ => rfl) 24⟩
  have h_law_truth : Has P w K mg base CX0 "_law_truth" 24 ["demand", "lot"] (spTruth 24) := by
    obtain ⟨fd, F⟩ := cD.def_ 15 (d := dF "_law_truth" 17) rfl
    exact ⟨_, fd, (He.glo_ok X G (cD.fact 15 (f := .glo "_law_truth") rfl)), F.kp, (F.bindsN fun _ _ _ _ _ _ us hl => match us, hl with | [_, _], _ => rfl), truth_all F (He.glo_ok X G (cD.fact 15 (f := .glo "_law_truth") rfl)) F.kp (F.bindsN fun _ _ _ _ _ _ us hl => match us, hl with | [_, _], _ => rfl) 24⟩
  have h_law_lots : Has P w K mg base CX0 "_law_lots" 1 ["things"] spLots := by
    obtain ⟨fd, F⟩ := cD.def_ 16 (d := dF "_law_lots" 18) rfl
    exact ⟨_, fd, (He.glo_ok X G (cD.fact 16 (f := .glo "_law_lots") rfl)), F.kp, (F.bindsN fun _ _ _ _ _ _ us hl => match us, hl with | [_], _ => rfl), ok_lots F⟩
  have h_law_neat : Has P w K mg base CX0 "_law_neat" 25 ["demand"] (spLNeat 24) := by
    obtain ⟨fd, F⟩ := cD.def_ 17 (d := dF "_law_neat" 19) rfl
    exact ⟨_, fd, (He.glo_ok X G (cD.fact 17 (f := .glo "_law_neat") rfl)), F.kp, (F.bindsN fun _ _ _ _ _ _ us hl => match us, hl with | [_], _ => rfl), ok_lneat F ⟨zsorted, zany, zall, zlen, ztuple, h_law_claims, h_law_lots, h_law_truth⟩⟩
  have h_law_of_lots : Has P w K mg base CX0 "_law_of_lots" 1 ["lots"] spOf := by
    obtain ⟨fd, F⟩ := cD.def_ 18 (d := dF "_law_of_lots" 20) rfl
    exact ⟨_, fd, (He.glo_ok X G (cD.fact 18 (f := .glo "_law_of_lots") rfl)), F.kp, (F.bindsN fun _ _ _ _ _ _ us hl => match us, hl with | [_], _ => rfl), ok_of F⟩
  have h_law_is_right : HasG P w K mg base CX0 "_law_is_right" 5 ["demand", "due"] spRight := by
    obtain ⟨fd, F⟩ := cD.def_ 19 (d := dF "_law_is_right" 21) rfl
    exact ⟨_, fd, (He.glo_ok X G (cD.fact 19 (f := .glo "_law_is_right") rfl)), F.kp, (F.bindsN fun _ _ _ _ _ _ us hl => match us, hl with | [_, _], _ => rfl), ok_right F ⟨zrepr, sys, hneat, h_law_is⟩⟩
  have h_law_wide : Has P w K mg base CX0 "_law_wide" 3 ["hand", "word", "other"] spWide := by
    obtain ⟨fd, F⟩ := cD.def_ 20 (d := dF "_law_wide" 22) rfl
    exact ⟨_, fd, (He.glo_ok X G (cD.fact 20 (f := .glo "_law_wide") rfl)), F.kp, (F.bindsN fun _ _ _ _ _ _ us hl => match us, hl with | [_, _, _], _ => rfl), ok_wide F ⟨zrange, zint, h_law_mixed⟩⟩
  have h_law_demand_deep : Has P w K mg base CX0 "_law_demand_deep" 24 ["demand"] (spDeep 24) := by
    obtain ⟨fd, F⟩ := cD.def_ 11 (d := dF "_law_demand_deep" 13) rfl
    exact ⟨_, fd, (He.glo_ok X G (cD.fact 11 (f := .glo "_law_demand_deep") rfl)), F.kp, (F.bindsN fun _ _ _ _ _ _ us hl => match us, hl with | [_], _ => rfl), deep_all F zmax (He.glo_ok X G (cD.fact 11 (f := .glo "_law_demand_deep") rfl)) F.kp (F.bindsN fun _ _ _ _ _ _ us hl => match us, hl with | [_], _ => rfl) 24⟩
  exact ⟨zrange, h_law_hand, h_law_draw, h_law_some, h_law_mixed, h_law_demand, h_law_wide, h_law_otherwise, h_law_neat, h_law_of_lots, h_law_demand_deep, hneat, h_law_is_right⟩
theorem facts {P : Program} {w : World} {K : PySem.W.Frag} {h : Heap} {mg : Str → Option Value} {f : Addr} (X : K.In h) (G : h.Ns mainGlobals mg) (hfa : mg ("law" : Str) = some (.ref f)) (c : SaysX K) :
    ∃ fd : FuncData, (∀ (s : Shared) (v : Value), BindsTo s fd ⟨[v], []⟩ [("script", v)]) ∧ ∀ base : Heap, K.In base → base.Ns mainGlobals mg → FnG P w K mg base CX0 26 f fd ["script"] (spLaw K) := by
  have cD : He.SaysD fa fn K := (congrArg (fun z : AlX => z.2) (show (true, He.valD fn) = obsX K from Eq.symm c)).symm
  obtain ⟨fd, F⟩ := cD.def_ 21 (d := dF "law" 23) rfl
  have e := hfa.symm.trans (He.glo_ok X G (cD.fact 21 (f := .glo "law") rfl))
  cases e
  have b := FunD.bindsA (ps := ["script"]) F fun _ _ _ _ _ _ us hl => match us, hl with | [_], _ => rfl
  exact ⟨fd, fun s v => b s [v] rfl, fun base _ _ => ok_law F (law_facts X G c)⟩
end K10
set_option maxHeartbeats 0
namespace K10
open PySem PySem.Spec PyProof.Rows L2
theorem run (w : World) : HandSHeadRun.RunEq R qv hk ob 12000 loose w := by
  intro os
  kernel_rfl
end K10
set_option maxHeartbeats 0
open PySem PySem.W PySem.Calls PyProof.Rows
theorem PySem.Challenge.cw_nearestkinds_k10_whole_neat_holds : PySem.Challenge.rw_nearestkinds_k10_whole_neat.Holds := by
  w_on; o_law
  refine HandSHeadRun.head_any (r := OpenLaw.row PySem.Challenge.rw_nearestkinds_k10_whole_neat) (q := view (OpenLaw.row PySem.Challenge.rw_nearestkinds_k10_whole_neat).prog [23]) (H := K10.hk) (ob := K10.ob) (M := 12000) (loose := K10.loose) (d := HandSHeadRun.topDef (OpenLaw.row PySem.Challenge.rw_nearestkinds_k10_whole_neat).prog 23) (kwd := []) K10.ob_eq
    (by kernel_rfl) (fun s => by kernel_rfl) K10.run (by kernel_rfl) (by kernel_rfl) (by kernel_rfl) (by rfl) (by first | assumption | decide +kernel) (by decide +kernel) ⟨rfl, rfl, rfl, rfl, rfl, by decide +kernel⟩ ?hw ?hc
  case hw => w_witness2
  case hc =>
    refine LL.walk_ofG (l := PySem.Challenge.rw_nearestkinds_k10_whole_neat) (n := 63) (k := 26) (x := "script") (CX := L2.CX0) rfl (by decide) (by kernel_rfl) ⟨rfl, by decide, by decide⟩ ?F (fun _ _ _ _ z => z)
    intro w mg fa h Y G hmg0
    obtain ⟨K, KX, c⟩ := Y
    have hmg : mg ("law" : PySem.Str) = some (.ref fa) := by
      have e : (HandSHeadRun.topDef (OpenLaw.row PySem.Challenge.rw_nearestkinds_k10_whole_neat).prog 23).name = ("law" : PySem.Str) := by kernel_rfl
      rw [← e]
      exact hmg0
    obtain ⟨fd, hb, hF⟩ := K10.facts (P := (PySem.Challenge.rw_nearestkinds_k10_whole_neat).prog) (w := w) KX G hmg c
    exact ⟨K, fd, K10.spLaw K, KX, hb, fun H a ns hl _ hS => ⟨a, ns, rfl, hS, hl, fun _ => rfl⟩, hF⟩
