import PyProof.Rows.All
import Wide.All
import OpenK.AllK
import Wide.FinOn
import PyProof.ReprRoads
import HandS.Base
import HandS.Call
import HandS.List
import HandS.Dict
import HandS.Evl
import HandS.Words
import HandS.Ends
import HandS.HeadEnd
import HandS.Defaults
import KE.KExcIs
import HandS.Exc
import HandS.ExcOwn
import HandS.ExcInit
import HandS.ExcField
import HandS.IsInst
import HandS.ExcValue
import HandS.HeadHook1
import HandS.Comp
import HandS.WordsList
import HandS.WordsExc
import HandS.Walk
import PyProof.FitsInt
import PyProof.ReprText
import PyProof.StrLaws
import KE.KStateDown
import HandS.Head0
import HandS.Head1
import HandS.Head2
import HandS.HeadHook2
import HandS.ExcIs
import HandS.TryOnly
import PySem.Challenge.RW_nearestkinds_k00_errors_keep_what_is_pas
set_option Elab.async false
set_option linter.all false
set_option maxRecDepth 100000
set_option maxHeartbeats 4000000
/-! Nested data over the abstract heap, with dicts, apart from one address l (the hand); its repr. -/
namespace LL
open PySem PySem.Spec PyProof.Rows L2
def kD : Key → PyData
  | .inl i => .int i
  | .inr x => .str x
mutual
inductive Dz (l : Addr) (H : Hp) : V → PyData → Prop
  | non : Dz l H .non .none
  | bl (b : Bool) : Dz l H (.bl b) (.bool b)
  | int (i : Int) : Dz l H (.int i) (.int i)
  | str (x : Str) : Dz l H (.str x) (.str x)
  | lst {a : Addr} {xs : List V} {ds : List PyData} (ne : a ≠ l) (h : H a = some (.lst xs)) (hs : Dzs l H xs ds) : Dz l H (.ref a) (.list ds)
  | tup {a : Addr} {xs : List V} {ds : List PyData} (ne : a ≠ l) (h : H a = some (.tup xs)) (hs : Dzs l H xs ds) : Dz l H (.ref a) (.tuple ds)
  | dic {a : Addr} {kvs : List (Key × V)} {ds : List PyData} (ne : a ≠ l) (h : H a = some (.dK kvs)) (hs : Dzs l H (kvs.map (·.2)) ds) : Dz l H (.ref a) (.dict ((kvs.map fun p => kD p.1).zip ds))
  | dit {a : Addr} {kvs : List (List Key × V)} {ds : List PyData} (ne : a ≠ l) (h : H a = some (.dT kvs)) (hs : Dzs l H (kvs.map (·.2)) ds) : Dz l H (.ref a) (.dict ((kvs.map fun p => PyData.tuple (p.1.map kD)).zip ds))
inductive Dzs (l : Addr) (H : Hp) : List V → List PyData → Prop
  | nil : Dzs l H [] []
  | cons {v : V} {vs : List V} {d : PyData} {ds : List PyData} (h : Dz l H v d) (hs : Dzs l H vs ds) : Dzs l H (v :: vs) (d :: ds)
end
/-- what was tracked stands, but at l -/
def Exl (l : Addr) (H H' : Hp) : Prop := ∀ a o, a ≠ l → H a = some o → H' a = some o
theorem Exl.refl (l : Addr) (H : Hp) : Exl l H H := fun _ _ _ h => h
theorem Exl.trans {l : Addr} {H H1 H2 : Hp} (a : Exl l H H1) (b : Exl l H1 H2) : Exl l H H2 := fun x o n h => b x o n (a x o n h)
theorem Exl.of {l : Addr} {H H1 : Hp} (a : Evl.Ex H H1) : Exl l H H1 := fun x o _ h => a x o h
theorem Exl.upd {l : Addr} {H : Hp} {o : HO} : Exl l H (upd H l o) := fun x u n h => by rw [upd_ne n]; exact h
mutual
theorem Dz.mono {l : Addr} {H H' : Hp} (e : Exl l H H') : ∀ {v : V} {d : PyData}, Dz l H v d → Dz l H' v d
  | _, _, .non => .non
  | _, _, .bl b => .bl b
  | _, _, .int i => .int i
  | _, _, .str x => .str x
  | _, _, .lst n h hs => .lst n (e _ _ n h) (Dzs.mono e hs)
  | _, _, .tup n h hs => .tup n (e _ _ n h) (Dzs.mono e hs)
  | _, _, .dic n h hs => .dic n (e _ _ n h) (Dzs.mono e hs)
  | _, _, .dit n h hs => .dit n (e _ _ n h) (Dzs.mono e hs)
theorem Dzs.mono {l : Addr} {H H' : Hp} (e : Exl l H H') : ∀ {vs : List V} {ds : List PyData}, Dzs l H vs ds → Dzs l H' vs ds
  | _, _, .nil => .nil
  | _, _, .cons h hs => .cons (Dz.mono e h) (Dzs.mono e hs)
end
theorem Dzs.length {l : Addr} {H : Hp} : ∀ {vs : List V} {ds : List PyData}, Dzs l H vs ds → vs.length = ds.length
  | _, _, .nil => rfl
  | _, _, .cons _ hs => congrArg (· + 1) (Dzs.length hs)
/-- the table of modules is a dict that the written part holds -/
def Sys (K : PySem.W.Frag) : Prop := ∃ o, K.lookup sysModules = some o ∧ o.cls = .type "dict"
section
variable {X : Cx} {pins : List (Addr × Obj)} {σ : L2.St} {H : Hp} {s : Shared}
theorem Sys.ne (y : Sys X.K) (I : Inv X pins σ H s) {a : Addr} {o : Obj} {c : String} (e : s.heap.get? a = some o) (hc : o.cls = .type c) (n : c ≠ "dict") : a ≠ sysModules := fun z => by
  obtain ⟨q, e2, c2⟩ := y
  have e3 := I.kIn _ _ e2
  rw [z, e3] at e
  have z2 := Option.some.inj e
  subst z2
  rw [c2] at hc
  exact n (Value.type.inj hc).symm
theorem reads_key {h : Heap} {k : Key} {u : Value} (hk : keyIs k u = true) : Reads h u (kD k) [] := by
  rcases keyIs_shape hk with ⟨i, t, rfl, rfl⟩ | ⟨x, t, rfl, rfl⟩
  · exact .int i t
  · exact .str x t
theorem reads_items {h : Heap} : ∀ {ks : List Key} {us : List Value}, Vals (ks.map kV) us → ReadsAll h us (ks.map kD) []
  | [], us, r => by
    rw [List.map_nil] at r
    cases r
    exact .nil
  | k :: ks, us, r => by
    rw [List.map_cons] at r
    cases r with
    | cons a b =>
      rename_i u us'
      have q : Reads h u (kD k) [] := by
        cases k with
        | inl i => obtain ⟨t, e⟩ := a; subst e; exact .int i t
        | inr x => obtain ⟨t, e⟩ := a; subst e; exact .str x t
      exact .cons q (reads_items b)
theorem reads_pairs {prog : Program} {w : World} (h : Heap) : ∀ {es : List DictEntry} {vs : List (Key × Value)}, Pairs (mixKind prog w) es vs → ∀ {kvs : List (Key × V)}, KV kvs vs →
    ReadsAll h (es.map (·.key)) (kvs.map fun p => kD p.1) [] ∧ Vals (kvs.map (·.2)) (es.map (·.val))
  | _, _, .nil, kvs, r => by
    cases r
    exact ⟨.nil, .nil⟩
  | _, _, .cons hk hv t, kvs, r => by
    cases r with
    | @cons p q ps qs a b =>
      obtain ⟨h1, h2⟩ := reads_pairs h t b
      obtain ⟨a1, a2⟩ := a
      refine ⟨.cons (as := []) (bs := []) (by show Reads h _ (kD p.1) []; rw [a1]; exact reads_key hk) h1, .cons (by dsimp only; rw [hv]; exact a2) h2⟩
theorem reads_tups (I : Inv X pins σ H s) : ∀ {kvs : List (List Key × V)} {xs : List (List Key × Addr × Value)}, KT H kvs xs →
    ReadsAll s.heap (xs.map fun x => Value.ref x.2.1) (kvs.map fun p => PyData.tuple (p.1.map kD)) [] ∧ Vals (kvs.map (·.2)) (xs.map fun x => x.2.2)
  | _, _, .nil => ⟨.nil, .nil⟩
  | _, _, .cons (a := p) (b := q) a b => by
    obtain ⟨h1, h2⟩ := reads_tups I b
    obtain ⟨_, its, rv, o, e1, e2, n, e3⟩ := (show ObjOk X.prog X.w H s.heap q.2.1 (.tup (p.1.map kV)) from I.hok _ _ a.2.1)
    exact ⟨.cons (as := []) (bs := []) (.tuple e1 e2 e3 (by simpa using reads_items rv)) h1, .cons a.2.2 h2⟩
theorem zip_fst {α β : Type} : ∀ {as : List α} {bs : List β}, as.length = bs.length → (as.zip bs).map (·.1) = as
  | [], [], _ => rfl
  | a :: as, b :: bs, h => congrArg (a :: ·) (zip_fst (Nat.succ.inj h))
theorem zip_snd {α β : Type} : ∀ {as : List α} {bs : List β}, as.length = bs.length → (as.zip bs).map (·.2) = bs
  | [], [], _ => rfl
  | a :: as, b :: bs, h => congrArg (b :: ·) (zip_snd (Nat.succ.inj h))
mutual
theorem Dz.reads (y : Sys X.K) (I : Inv X pins σ H s) {l : Addr} : ∀ {v : V} {d : PyData} {u : Value}, Dz l H v d → RelV v u → ∃ as, Reads s.heap u d as ∧ sysModules ∉ as
  | _, _, _, .non, r => by cases (show _ = Value.none from r); exact ⟨[], .none, by simp⟩
  | _, _, _, .bl b, r => by cases (show _ = Value.bool b from r); exact ⟨[], .bool b, by simp⟩
  | _, _, _, .int i, r => by obtain ⟨t, e⟩ := r; subst e; exact ⟨[], .int i t, by simp⟩
  | _, _, _, .str x, r => by obtain ⟨t, e⟩ := r; subst e; exact ⟨[], .str x t, by simp⟩
  | _, _, _, .lst (a := a) (xs := xs) n h hs, r => by
    cases (show _ = Value.ref a from r)
    obtain ⟨_, its, m, rv, e⟩ := (show ObjOk X.prog X.w H s.heap a (.lst xs) from I.hok _ _ h)
    obtain ⟨as, q, z⟩ := Dzs.reads y I hs rv
    refine ⟨a :: as, .list e rfl rfl (by simpa using q), fun hm => ?_⟩
    rcases List.mem_cons.mp hm with e2 | e2
    · exact y.ne I e rfl (by decide) e2.symm
    · exact z e2
  | _, _, _, .tup (a := a) (xs := xs) n h hs, r => by
    cases (show _ = Value.ref a from r)
    obtain ⟨_, its, rv, o, e1, e2, m, e3⟩ := (show ObjOk X.prog X.w H s.heap a (.tup xs) from I.hok _ _ h)
    obtain ⟨as, q, z⟩ := Dzs.reads y I hs rv
    exact ⟨as, .tuple e1 e2 e3 (by simpa using q), z⟩
  | _, _, _, .dic (a := a) (kvs := kvs) (ds := ds) n h hs, r => by
    cases (show _ = Value.ref a from r)
    obtain ⟨_, hS, vs, kv, o, es, ep, e1, e2, e3, _, e5, _⟩ := (show ObjOk X.prog X.w H s.heap a (.dK kvs) from I.hok _ _ h)
    obtain ⟨q1, rv⟩ := reads_pairs s.heap e5 kv
    obtain ⟨as, q, z⟩ := Dzs.reads y I hs rv
    have hl : (kvs.map fun p => kD p.1).length = ds.length := by rw [List.length_map, ← hs.length, List.length_map]
    refine ⟨a :: [] ++ as, .dict e1 e2.1 e3 (by rw [zip_fst hl]; exact q1) (by rw [zip_snd hl]; exact q), fun hm => ?_⟩
    rcases List.mem_cons.mp (show sysModules ∈ a :: as from hm) with e6 | e6
    · exact (beq_eq_false_iff_ne.mp hS) e6.symm
    · exact z e6
  | _, _, _, .dit (a := a) (kvs := kvs) (ds := ds) n h hs, r => by
    cases (show _ = Value.ref a from r)
    obtain ⟨_, hS, xs, kt, o, es, ep, e1, e2, e3, e4, _⟩ := (show ObjOk X.prog X.w H s.heap a (.dT kvs) from I.hok _ _ h)
    obtain ⟨q1, rv⟩ := reads_tups I (show KT H kvs xs from kt)
    obtain ⟨as, q, z⟩ := Dzs.reads y I hs rv
    have hl : (kvs.map fun p => PyData.tuple (p.1.map kD)).length = ds.length := by rw [List.length_map, ← hs.length, List.length_map]
    have k1 : es.toList.map (·.key) = xs.map fun x => Value.ref x.2.1 := by rw [e4, List.map_map]; rfl
    have k2 : es.toList.map (·.val) = xs.map fun x => x.2.2 := by rw [e4, List.map_map]; rfl
    refine ⟨a :: [] ++ as, .dict e1 e2.1 e3 (by rw [zip_fst hl, k1]; exact q1) (by rw [zip_snd hl, k2]; exact q), fun hm => ?_⟩
    rcases List.mem_cons.mp (show sysModules ∈ a :: as from hm) with e6 | e6
    · exact (beq_eq_false_iff_ne.mp hS) e6.symm
    · exact z e6
theorem Dzs.reads (y : Sys X.K) (I : Inv X pins σ H s) {l : Addr} : ∀ {vs : List V} {ds : List PyData} {us : List Value}, Dzs l H vs ds → Vals vs us → ∃ as, ReadsAll s.heap us ds as ∧ sysModules ∉ as
  | _, _, _, .nil, r => by cases r; exact ⟨[], .nil, by simp⟩
  | _, _, _, .cons h hs, r => by
    cases r with
    | cons r1 r2 =>
      obtain ⟨as, q1, z1⟩ := Dz.reads y I h r1
      obtain ⟨bs, q2, z2⟩ := Dzs.reads y I hs r2
      exact ⟨as ++ bs, .cons q1 q2, fun hm => (List.mem_append.mp hm).elim z1 z2⟩
end
end
/-- repr of a list, a tuple, a dict -/
def rRepr (l : Addr) : List V → Hp → VK → Prop := fun xs H Q => ∃ (a : Addr) (d : PyData), xs = [.ref a] ∧ Dz l H (.ref a) d ∧ d.showable = true ∧ d.depth ≤ 62 ∧ d.shown.length ≤ sizeLine ∧ Q (.str d.shown) H
theorem call_repr {X : Cx} {l : Addr} (y : Sys X.K) (hg : X.A.guards = some []) (hu : X.A.units + 64 < cLine) : CallR X (.builtin "repr") (rRepr l) := by
  intro pins s σ H xs us Q I r h
  obtain ⟨a, d, rfl, hd, hs, hp, hz, q⟩ := h
  obtain ⟨u, rfl, r1⟩ := vals1 r
  cases (show u = Value.ref a from r1)
  obtain ⟨as, rd, ns⟩ := hd.reads y I rfl
  exact repr_of_reads' rd hs (fun _ => ns) hg (by omega) (fun _ _ e => e) (fun h' u tk k => ⟨.str d.shown, H, I.kept (t' := tk) k, ⟨u, rfl⟩, q⟩) hz
end LL
set_option maxHeartbeats 4000000
/-! Defs whose frames stand outside of any repr that runs: their promise is asked at such callers alone. -/
namespace LL
open PySem PySem.Spec PyProof.Rows L2
/-- as FnOk, of callers without a guard on the stack -/
structure FnG (P : Program) (w : World) (K : PySem.W.Frag) (mg : Str → Option Value) (base : Heap) (CX : CXT) (k : Nat) (f : Addr) (fd : FuncData) (ps : List Str) (sp : Sp) : Prop where
  many : ∀ {vs H Q E}, sp vs H Q E → vs.length = ps.length
  go : ∀ {A : Around} {outer : List Env} {s : Shared} {H : Hp} {args : Args} {us : List Value} {vs : List V} {Q : VK} {E : XK}, A.guards = some [] → Room k A → Env0 P w K mg base A outer s H →
    BindsTo s fd args (ps.zip us) → Vals vs us → sp vs H Q E → codeAny (model P w) A (.call (.ref f) args) (CR CX outer P w H s Q E) s
section
variable {P : Program} {w : World} {K : PySem.W.Frag} {mg : Str → Option Value} {base : Heap} {CX : CXT}
theorem FnG.of {k : Nat} {f : Addr} {fd : FuncData} {ps : List Str} {sp : Sp} (F : FnOk P w K mg base CX k f fd ps sp) : FnG P w K mg base CX k f fd ps sp :=
  ⟨fun h => F.len _ _ _ _ h, fun _ hr e b r h => F.run _ _ _ _ _ _ _ _ _ hr e b r h⟩
theorem guards_deeper {A : Around} {env : Env} (h : A.guards = some []) : (A.deeper env).guards = some [] := by
  first | exact h | simpa [Around.deeper] using h
/-- the rule for a def of the text -/
theorem fnG_of {k : Nat} {f : Addr} {x qual : Str} {params : Arguments} {body : List Stmt} {scope : Scope} {fd : FuncData} {N ps : List Str} {sp : Sp} (F : FunD K x qual params body scope [] [] f fd) (S : FnScope N ps scope)
    (many : ∀ {vs H Q E}, sp vs H Q E → vs.length = ps.length)
    (hb : ∀ (cdv : Value) (A : Around) (outer : List Env) (s : Shared) (H : Hp) (vs : List V) (Q : VK) (E : XK), A.guards = some [] → Room k (A.deeper (envOfC qual scope s.heap.objs.size f cdv)) → sp vs H Q E →
      ∃ t, PSs (cxOf CX P w K mg base N qual scope f cdv A outer s H E) body t ∧ t { nx := fun _ H' => Q .non H', rt := Q } (start N vs) H) : FnG P w K mg base CX (k + 1) f fd ps sp := by
  obtain ⟨oc, od, dV, kV, doc, pm, an, cdv, ct, osl, e, lk, code, _, _⟩ := F.ex
  subst e
  constructor
  · exact many
  · intro A outer s H args us vs Q E hg hr e0 bound r h
    obtain ⟨t, ht, q⟩ := hb cdv A outer s H vs Q E hg (hr.deeper _) h
    have kp : ∀ b o, base.get? b = some o → s.heap.get? b = some o := fun b o z => (e0.bs b o z).1
    have KX : K.In s.heap := e0.mod.kin.keeps kp
    refine codeAny_call_function hr.depth (KX _ _ lk) rfl S.co S.gen rfl (PySem.W.codeRec_of KX code) (bound _ _ _ _ (wpAny_newFunctionEnv_cells S.kind ?_ ?_))
    · intro y hy
      have hp := S.par y.1 (List.of_mem_zip (show (y.1, y.2) ∈ ps.zip us from hy)).1
      exact hp.elim Or.inl fun z => Or.inr ⟨z, PySem.W.cellsFrom_some _ _ _ (Or.inl z)⟩
    · intro env he s1 x
      cases he
      refine ⟨(e0.mod.nolimit.keeps kp).keeps x.toInCall.keep, codeAny_func (wpAny_mono (ht.run [] s1 (start N vs) H _ (inv_start S hr.hd e0 (many h) r x) q) ?_ fun _ _ z => z)⟩
      intro fl s2 z
      cases fl with
      | ret u =>
        obtain ⟨v, σ2, H2, J, rv, q2⟩ := z
        exact ⟨v, H2, J.os, J.bare, J.base, J.hok, rv, q2⟩
      | next =>
        obtain ⟨σ2, H2, J, q2⟩ := z
        exact ⟨.non, H2, J.os, J.bare, J.base, J.hok, rfl, q2⟩
      | brk =>
        obtain ⟨_, _, _, z⟩ := z
        exact z.elim
      | cont =>
        obtain ⟨_, _, _, z⟩ := z
        exact z.elim
end
/-- f(e, ..) of such a def -/
theorem pe_callG {X : Cx} {CX : CXT} {k : Nat} {f : Addr} {fd : FuncData} {ps : List Str} {sp : Sp} {E : XK} {x : Str} {p pos : Pos} {e : Expr} {es : List Expr} {t : TA} (F : FnG X.prog X.w X.K X.mg X.base CX k f fd ps sp) (hG : X.A.guards = some [])
    (hr : Room k X.A) (hg : Gl X x) (hm : X.mg x = some (.ref f)) (hk : PySem.W.keepIn X.K (.ref f) = true) (hb : Binds X.K fd ps []) (hx : Passes CX X E) (ha : PA X (e :: es) t) (hdb : (x == ("__debug__" : Str)) = false := by decide)
    (he : starEach (e :: es) X.env = (false, eval e X.env) :: starEach es X.env := by rfl) (hpl : (backTo pos (starEach es X.env)).any (·.1) = false := by rfl) : PE X (.Call (.Name x p) (e :: es) [] pos) (tCall sp [] E t) := by
  constructor
  intro pins s σ H Q I h
  refine wpAny_Call_Name_kw (ld_glob I hg hm ?_ hdb)
  refine PySem.W.callWith_K (h₀ := X.base) I.ok.mod.kin hk (thn (ha.run pos pins s σ H _ I h) ?_) he hpl
  rintro us s1 ⟨vs, H1, I1, r, q⟩
  have q1 : sp vs H1 Q E := by
    have z : sp (vs ++ []) H1 Q E := q
    rwa [List.append_nil] at z
  have l1 : (us ++ []).length = ps.length := by rw [List.append_nil, ← r.length]; exact F.many q1
  have b1 := hb s1 us I1.kIn l1
  rw [List.append_nil] at b1
  refine ⟨I1.kIn, wpAny_call (codeAny_mono (F.go hG hr I1.env0 b1 r q1) ?_)⟩
  intro res s2 z
  match res, z with
  | .error er, z => exact hx pins σ H1 s1 er s2 I1 z
  | .ok (.ret u), z => exact I1.after z
/-- at the law's own call, from a heap in which the script alone is tracked -/
theorem law_atG {P : Program} {w : World} {K : PySem.W.Frag} {mg mb : Str → Option Value} {CX : CXT} {k : Nat} {fa a : Addr} {fd : FuncData} {x : Str} {sp : Sp} {s : Shared} {vs : List Value} (H : Hp)
    (KX : K.In s.heap) (hns : s.heap.Ns mainGlobals mg) (hb : s.heap.Ns builtinsNs mb) (hbb : ∀ x : Str, x ≠ "__name__" → mb x = bootBuiltins x) (hlim : s.heap.NoLimit) (hg : s.gens = #[])
    (ha : s.heap.get? a = some { cls := .type "list", data := .seq vs.toArray }) (hr : Room k callerA)
    (F : ∀ base : Heap, K.In base → base.Ns mainGlobals mg → FnG P w K mg base CX k fa fd [x] sp) (hbind : ∀ (s : Shared) (u : Value), BindsTo s fd ⟨[u], []⟩ [(x, u)])
    (hO : Only H) (hok : HOk P w H s.heap) (hA : ∀ b, H b ≠ none → b = a) (hK : H a ≠ none → K.lookup a = none)
    (hsp : sp [.ref a] H (fun v _ => v = .bl true) fun _ _ _ => False) (hCX : ∀ e s', CX [] H s (fun _ _ _ => False) e s' → False) :
    codeAny (model P w) callerA (.call (.ref fa) ⟨[.ref a], []⟩) (fun r s' => r = .ok (.ret (.bool true)) ∧ OldK s.heap s'.heap ∧ s'.os = s.os ∧ AllBare s'.gens) s := by
  have free : ∀ {b : Addr}, b ≠ a → H b = none := fun {b} n => by
    rcases Option.eq_none_or_eq_some (H b) with z | ⟨u, z⟩
    · exact z
    · exact absurd (hA b (by rw [z]; exact nofun)) n
  have dic : ∀ {b : Addr} {m : Str → Option Value}, s.heap.Ns b m → (hidT s.heap H).Ns b m := fun {b m} z => by
    obtain ⟨o, es, ep, e1, e2, e3⟩ := z
    refine ⟨o, es, ep, hidT_get e1 (free fun q => ?_), e2, e3⟩
    rw [q, ha] at e1
    cases e1
    cases e2
  have kin : K.In (hidT s.heap H) := fun b o e => by
    by_cases n : b = a
    · refine hidT_get (KX b o e) ?_
      rw [n]
      rcases Option.eq_none_or_eq_some (H a) with z | ⟨u, z⟩
      · exact z
      · have y := hK (by rw [z]; exact nofun)
        rw [n, y] at e
        cases e
    · exact hidT_get (KX b o e) (free n)
  have md : Mod K mg (hidT s.heap H) := by
    obtain ⟨mc, l1, l2⟩ := hlim
    exact ⟨kin, dic hns, ⟨mb, dic hb, hbb⟩, mc, dic l1, l2⟩
  have en : Env0 P w K mg (hidT s.heap H) callerA [] s H := ⟨rfl, md, fun _ _ z => of_hidT z, by rw [hidT_size]; exact Nat.le_refl _, True.intro, fun _ z => (List.not_mem_nil z).elim, hok, .of_eq hg⟩
  refine codeAny_mono ((F _ kin (dic hns)).go (us := [.ref a]) (vs := [.ref a]) rfl hr en (hbind s (.ref a)) (.cons rfl .nil) hsp) ?_
  intro res s' z
  match res, z with
  | .error er, z => exact (hCX er s' z).elim
  | .ok (.ret u), z =>
    obtain ⟨v, H', os, bare, un, ok2, rv, q⟩ := z
    have e1 : v = .bl true := q
    rw [e1] at rv
    have e2 : u = Value.bool true := rv
    rw [e2]
    refine ⟨rfl, OldK.of_keep fun b o e => ?_, os, bare⟩
    rcases hO b with n | ⟨ob, xs, n⟩
    · exact un.keep b o e n List.not_mem_nil List.not_mem_nil
    · have e3 : s.heap.get? b = some ob := (hok b _ n).1
      have e4 : s'.heap.get? b = some ob := (ok2 b _ (un.frzs b ob _ n)).1
      rw [e4, ← e3, e]
/-- a law whose def keeps such a promise -/
theorem walk_ofG {l : PySem.W.OpenLaw} {n k : Nat} {q : Program} {loose : List Str} {XP : (Str → Option Value) → Heap → Prop} {YP : World → Heap → Prop} {d : DefRec} {CX : CXT} {x : Str}
    (hn : l.most = some n) (hn2 : n ≤ sizeLine) (hdf : d.params.defaults = []) (hr : Room k callerA)
    (F : ∀ (w : World) (mg : Str → Option Value) (fa : Addr) (h : Heap), YP w h → h.Ns mainGlobals mg → mg d.name = some (.ref fa) →
      ∃ (K : PySem.W.Frag) (fd : FuncData) (sp : Sp), K.In h ∧ (∀ (s : Shared) (u : Value), BindsTo s fd ⟨[u], []⟩ [(x, u)]) ∧
        (∀ (H : Hp) (a : Addr) (ns : List Int), ns.length ≤ n → Only H → SqL K H a (ns.map V.int) → sp [.ref a] H (fun v _ => v = .bl true) fun _ _ _ => False) ∧
        ∀ base : Heap, K.In base → base.Ns mainGlobals mg → FnG l.prog w K mg base CX k fa fd [x] sp)
    (hCX : ∀ (H : Hp) (s : Shared) (e : Value) (s' : Shared), CX [] H s (fun _ _ _ => False) e s' → False) :
    PySem.W.WalkO q loose XP YP l.row.toRowW d [] (fun f vs => PySem.call f vs) := by
  refine Att.attach_call hn hdf ?_
  intro w s₀ s₁ mg mb fa o pm cd doc a vs ns G Y ho hd hcd hmg hobj hints hlen hg
  obtain ⟨K, fd, sp, KX, hb, hsp, hF⟩ := F w mg fa _ Y G.T.g hmg
  have rv := vals_ints hints
  have lv : vs.length = ns.length := hints.length
  have hl : ns.length ≤ sizeLine := Nat.le_trans hlen hn2
  cases hk : K.lookup a with
  | some u =>
    have e := KX a u hk
    rw [hobj] at e
    cases e
    have sq : SqL K (fun _ => none) a (ns.map V.int) := .inr ⟨_, vs.toArray, _, hk, rfl, rfl, rfl, by simpa [lv] using hl, by simpa using rv⟩
    exact law_atG (fun _ => none) KX G.T.g G.T.b G.T.builtins G.T.nolimit hg hobj hr hF hb (fun _ => .inl rfl) (fun _ _ z => nomatch z) (fun _ z => (z rfl).elim) (fun z => (z rfl).elim) (hsp _ a ns hlen (fun _ => .inl rfl) sq) fun e s' => hCX _ s₁ e s'
  | none =>
    have hO : Only (upd (fun _ => none) a (.frz { cls := .type "list", data := .seq vs.toArray } (.lst (ns.map V.int)))) := fun b => by
      by_cases n : b = a
      · exact .inr ⟨_, _, by rw [n, upd_same]⟩
      · exact .inl (by rw [upd_ne n])
    have one : ∀ b, upd (fun _ => none) a (.frz { cls := .type "list", data := .seq vs.toArray } (.lst (ns.map V.int))) b ≠ none → b = a := fun b z => by
      by_cases n : b = a
      · exact n
      · rw [upd_ne n] at z
        exact (z rfl).elim
    refine law_atG _ KX G.T.g G.T.b G.T.builtins G.T.nolimit hg hobj hr hF hb hO (fun b u z => ?_) one (fun _ => hk) (hsp _ a ns hlen hO (.inl (.inr ⟨_, upd_same⟩))) fun e s' => hCX _ s₁ e s'
    have n := one b (by rw [z]; exact nofun)
    subst n
    rw [upd_same] at z
    cases z
    exact ⟨hobj, by rw [List.length_map]; exact hl, vs, _, rv, hobj⟩
end LL
set_option maxHeartbeats 4000000
/-! Errors as values: made, read, asked; several except clauses with names. -/
namespace LL
open PySem PySem.Spec PyProof.Rows L2
abbrev VE : List Value := PySem.HandSPX.veTail
/-- an error's class: its line of classes is itself, kind, ValueError's; or it is kind -/
structure ErrC (K : PySem.W.Frag) (kind C : Addr) : Prop where
  ob : ∃ nm q N bs bm sn sub ab col dd k0 k1 k2 k3 k5, K.lookup C = some (excClassObj nm q C N bs bm true sn sub ab col dd k0 k1 k2 k3 k5 "ValueError.__new__") ∧ (bm = .ref kind :: VE ∨ (C = kind ∧ bm = VE))
  sa : PySem.W.findIn K (.ref C) "__setattr__" = some (some (.builtin "object.__setattr__"))
  ga : PySem.W.findIn K (.ref C) "__getattribute__" = some (some (.builtin "BaseException.__getattribute__"))
  gg : PySem.W.findIn K (.ref C) "__getattr__" = some none
  ac : PySem.W.findIn K (.ref C) "__class__" = some (some (.builtin "object.__class__"))
  kp : PySem.W.keepIn K (.ref C) = true
section
variable {K : PySem.W.Frag} {kind C D : Addr}
theorem ErrC.cls (T : ErrC K kind C) : ∃ cd bm, PySem.W.clsIn K C = some cd ∧ cd.mro = .ref C :: bm ∧ cd.hasDict = true ∧ (bm = .ref kind :: VE ∨ (C = kind ∧ bm = VE)) := by
  obtain ⟨nm, q, N, bs, bm, sn, sub, ab, col, dd, k0, k1, k2, k3, k5, h, m⟩ := T.ob
  refine ⟨{ name := nm, bases := bs, mro := .ref C :: bm, ns := N, qualname := q, hasDict := true, slotNames := sn, subclasses := sub, abstract := ab, collection := col, hasDel := false }, bm, ?_, rfl, rfl, m⟩
  unfold PySem.W.clsIn
  rw [h]
theorem ErrC.ty (T : ErrC K kind C) : PySem.W.typeIn K (.ref C) = some (.type "type") := by
  obtain ⟨nm, q, N, bs, bm, sn, sub, ab, col, dd, k0, k1, k2, k3, k5, h, m⟩ := T.ob
  show (K.lookup C).map (·.cls) = _
  rw [h] <;> rfl
theorem ErrC.subT (T : ErrC K kind C) (t : String) : PySem.W.subIn K (.ref C) (.type t) = some (VE.contains (.type t)) := by
  obtain ⟨cd, bm, h1, h2, _, m⟩ := T.cls
  show PySem.W.mroIn K C (.type t) = _
  unfold PySem.W.mroIn
  rw [h1, Option.bind_some, h2]
  rw [if_neg (by simp)]
  rcases m with m | ⟨_, m⟩ <;> subst m <;> simp [List.contains_cons]
theorem ErrC.subR (T : ErrC K kind C) : PySem.W.subIn K (.ref C) (.ref D) = some (decide (D = C ∨ D = kind)) := by
  obtain ⟨cd, bm, h1, h2, _, m⟩ := T.cls
  show PySem.W.mroIn K C (.ref D) = _
  unfold PySem.W.mroIn
  rw [h1, Option.bind_some, h2]
  rw [if_neg (by simp)]
  have e : ∀ a b : Addr, (Value.ref a == Value.ref b) = decide (a = b) := fun a b => by
    by_cases h : a = b
    · subst h; simp
    · have h2 : ¬ (Value.ref a = Value.ref b) := fun q => h (Value.ref.inj q)
      rw [decide_eq_false h]
      exact beq_eq_false_iff_ne.mpr h2
  rcases m with m | ⟨z, m⟩ <;> subst m
  · simp only [List.contains_cons, e, VE, PySem.HandSPX.veTail]
    congr 1
    by_cases h1 : D = C <;> by_cases h2 : D = kind <;> simp [h1, h2]
  · subst z
    simp only [List.contains_cons, e, VE, PySem.HandSPX.veTail]
    congr 1
    by_cases h1 : D = C <;> simp [h1]
theorem ErrC.hasD (T : ErrC K kind C) : PySem.W.hasDictIn K C = true := by
  obtain ⟨cd, bm, h1, h2, h3, m⟩ := T.cls
  unfold PySem.W.hasDictIn
  rw [h1]
  exact h3
theorem ErrC.exB (T : ErrC K kind C) : PySem.W.subIn K (.ref C) (.type "BaseException") = some true := (T.subT _).trans (by decide +kernel)
theorem ErrC.kitR (T : ErrC K kind C) (U : ErrC K kind D) : PySem.W.kitCls K (.ref C) (.ref D) = some (decide (D = C ∨ D = kind)) := by
  obtain ⟨cd, bm, h1, _⟩ := U.cls
  show (if ((PySem.W.clsIn K D).isSome && PySem.W.typeIn K (.ref D) == some (.type "type")) = true then PySem.W.subIn K (.ref C) (.ref D) else none) = _
  rw [if_pos (by rw [h1, U.ty]; rfl)]
  exact T.subR
theorem ErrC.kit (T : ErrC K kind C) (U : ErrC K kind D) : PySem.W.kitOne K (.ref C) (.ref D) = some (decide (D = C ∨ D = kind)) := by
  unfold PySem.W.kitOne
  by_cases h : C = D
  · subst h
    rw [if_pos (by simp)]
    simp
  · rw [if_neg (by simpa using h)]
    exact T.kitR U
theorem ErrC.kitV (T : ErrC K kind C) : PySem.W.kitOne K (.ref C) (.type "ValueError") = some true := by
  unfold PySem.W.kitOne
  rw [if_neg (by simp)]
  show (if PySem.W.kitMeta "ValueError" = true then PySem.W.subIn K (.ref C) (.type "ValueError") else none) = _
  rw [if_pos (by decide +kernel), T.subT]
  decide +kernel
theorem ErrC.exm (T : ErrC K kind C) (U : ErrC K kind D) : PySem.W.exmOne K (.ref C) (.ref D) = some (decide (D = C ∨ D = kind)) := by
  unfold PySem.W.exmOne
  rw [if_pos (by rw [U.exB]; rfl)]
  exact T.kitR U
theorem ErrC.oex (T : ErrC K kind C) : OexC K C := by
  obtain ⟨nm, q, N, bs, bm, sn, sub, ab, col, dd, k0, k1, k2, k3, k5, h, m⟩ := T.ob
  refine ⟨⟨nm, q, N, bs, bm, sn, sub, ab, col, dd, k0, k1, k2, k3, k5, h, ?_⟩, T.sa, T.exB, T.ty, T.kp⟩
  rcases m with m | ⟨_, m⟩ <;> subst m
  · show PySem.HandSPX.refsVE VE = true
    decide +kernel
  · decide +kernel
theorem ErrC.xf (T : ErrC K kind C) : XfC K C := ⟨T.ga, T.gg, T.exB, T.hasD⟩
theorem spc_get {K : PySem.W.Frag} : PySem.W.specialIn K (.builtin "object.__class__") "__get__" = some (some (.builtin "getset_descriptor.__get__")) := by
  show (PySem.W.typeIn K (.builtin "object.__class__")).bind (fun t => PySem.W.findIn K t "__get__") = _
  have e : PySem.W.typeIn K (.builtin "object.__class__") = some (.type "getset_descriptor") := by
    show PySem.W.pureOf (fastBuiltinType "object.__class__") = _
    kernel_rfl
  rw [e, Option.bind_some]
  show fastLookup "getset_descriptor" "__get__" = _
  kernel_rfl
theorem spc_set {K : PySem.W.Frag} : PySem.W.takesIn K (.builtin "object.__class__") = some true := by
  have e : PySem.W.typeIn K (.builtin "object.__class__") = some (.type "getset_descriptor") := by
    show PySem.W.pureOf (fastBuiltinType "object.__class__") = _
    kernel_rfl
  have e2 : PySem.W.specialIn K (.builtin "object.__class__") "__set__" = some (some (.builtin "getset_descriptor.__set__")) := by
    show (PySem.W.typeIn K (.builtin "object.__class__")).bind (fun t => PySem.W.findIn K t "__set__") = _
    rw [e, Option.bind_some]
    show fastLookup "getset_descriptor" "__set__" = _
    kernel_rfl
  unfold PySem.W.takesIn
  rw [e2]
theorem ErrC.kitX (T : ErrC K kind C) {a : Addr} {ox : Obj} {od : Option Obj} : PySem.W.KitX K (.ref a) (.ref C) (fun h => PySem.W.InstAt h a ox C od) := by
  obtain ⟨cd, bm, h1, h2, _, m⟩ := T.cls
  exact PySem.W.kitx_exc (by rw [h1]; rfl) T.ga T.gg T.exB T.ac spc_get spc_set ((T.subT "object").trans (by decide +kernel))
end
/-! ### an error that stands -/
/-- at a: an error of the class at D with these fields -/
def ErrAt (H : Hp) (a D : Addr) (fs : List (Str × V)) : Prop := (fs = [] ∧ H a = some (exo a D none)) ∨ ∃ d, H a = some (exo a D (some d)) ∧ H d = some (exd d fs)
theorem ErrAt.mono {H H' : Hp} {a D : Addr} {fs : List (Str × V)} (e : Evl.Ex H H') : ErrAt H a D fs → ErrAt H' a D fs
  | .inl ⟨h1, h2⟩ => .inl ⟨h1, e _ _ h2⟩
  | .inr ⟨d, h1, h2⟩ => .inr ⟨d, e _ _ h1, e _ _ h2⟩
section
variable {X : Cx} {pins : List (Addr × Obj)} {σ : L2.St} {H : Hp} {s : Shared} {a D kind : Addr} {fs : List (Str × V)}
theorem ErrAt.inst (h : ErrAt H a D fs) (I : Inv X pins σ H s) : ∃ ox od, PySem.W.InstAt s.heap a ox D od ∧ ∀ f v, fs.lookup f = some v → ∃ o u, od = some o ∧ PySem.W.lookIn f o = some (some u) ∧ RelV v u := by
  rcases h with ⟨h1, h2⟩ | ⟨d, h1, h2⟩
  · obtain ⟨t, e⟩ := exo_at I.hok h2
    exact ⟨_, none, ⟨e, rfl, rfl, True.intro⟩, fun f v q => by subst h1; cases q⟩
  · obtain ⟨t, e⟩ := exo_at I.hok h1
    obtain ⟨mA, hns, rel⟩ := exd_at I.hok h2
    obtain ⟨od, ho, hl⟩ := lookIn_ns hns
    refine ⟨_, some od, ⟨e, rfl, rfl, ho⟩, fun f v q => ?_⟩
    obtain ⟨u, hu, ru⟩ := RelO.some_of (v := v) (o := mA f) (by rw [← q]; exact rel f)
    exact ⟨od, u, rfl, by rw [hl, hu], ru⟩
/-- isinstance(e, C) of such an error -/
def rIsX (K : PySem.W.Frag) : List V → Hp → VK → Prop := fun xs H Q => ∃ (a D kind : Addr) (fs : List (Str × V)) (c : V) (cv : Value) (b : Bool), xs = [.ref a, c] ∧ ErrAt H a D fs ∧ ErrC K kind D ∧ ClsV c cv ∧ PySem.W.kitOne K (.ref D) cv = some b ∧ Q (.bl b) H
theorem call_isX : CallR X (.builtin "isinstance") (rIsX X.K) := by
  intro pins s σ H xs us Q I r h
  obtain ⟨a, D, kind, fs, c, cv, b, rfl, ha, T, kc, e, q⟩ := h
  obtain ⟨u1, u2, rfl, r1, r2⟩ := vals2 r
  have e2 := kc.eq r2
  subst e2
  cases (show u1 = Value.ref a from r1)
  obtain ⟨ox, od, J, _⟩ := ha.inst I
  exact PySem.W.kia_one (T.kitX (a := a) (ox := ox) (od := od)) I.kIn J e (fun z => nomatch z) fun tk => ⟨.bl b, H, I.tok tk, rfl, q⟩
/-- e.f of such an error -/
def tFx (K : PySem.W.Frag) (f : Str) (te : TE) : TE := fun σ H Q => te σ H fun x H1 => ∃ (a D kind : Addr) (fs : List (Str × V)) (v : V), x = .ref a ∧ ErrAt H1 a D fs ∧ ErrC K kind D ∧ PySem.W.findIn K (.ref D) f = some none ∧ fs.lookup f = some v ∧ Q v H1
theorem pe_fx {e : Expr} {te : TE} {pos : Pos} {n : Str} (he : PE X e te) (hb : attributeBase e n X.env (eval e X.env) = eval e X.env := by rfl) : PE X (.Attribute e n pos) (tFx X.K n te) := by
  constructor
  intro pins s σ H Q I h
  refine attr_of hb (thn (he.run pins s σ H _ I h) ?_)
  rintro u s1 ⟨x, H1, I1, rx, a, D, kind, fs, v, rfl, ha, T, hno, hl, q⟩
  cases (show u = Value.ref a from rx)
  obtain ⟨ox, od, J, look⟩ := ha.inst I1
  obtain ⟨o, w, rfl, hw, rw'⟩ := look n v hl
  exact PySem.HandSPX.exc_get I1.kIn J T.ga T.gg T.exB (PySem.W.findObj_own T.hasD hno rfl hw) (handed_of rw') ⟨v, H1, I1.tok _, rw', q⟩
end
/-! ### an error that is made -/
/-- C(e, ..), its own __init__ keeping sp -/
def tOex (C : Addr) (sp : Sp) (ta : TA) : TE := fun σ H Q => ta σ H fun vs H1 => ∀ a, H1 a = none → sp (.ref a :: vs) (upd H1 a (exo a C none)) (fun v H2 => v = .non ∧ Q (.ref a) H2) fun _ _ _ => False
section
variable {X : Cx} {CX : CXT} {x : Str} {C fI kind : Addr} {k : Nat} {fd : FuncData} {ps : List Str} {sp : Sp} {p pos : Pos} {e : Expr} {es : List Expr} {ta : TA}
theorem oex_run (T : ErrC X.K kind C) (iC : PySem.W.findIn X.K (.ref C) "__init__" = some (some (.ref fI))) (tI : PySem.W.typeIn X.K (.ref fI) = some (.type "function")) (F1 : FnOk X.prog X.w X.K X.mg X.base CX k fI fd ps sp) (hr : Room (k + 1) X.A)
    (hb : Binds X.K fd ps []) (hx : Passes CX X fun _ _ _ => False) (hps : ps.length ≤ 1000) {pins : List (Addr × Obj)} {σ : L2.St} {H1 : Hp} {s : Shared} {Q : VK} {us : List Value} {vs : List V} (I1 : Inv X pins σ H1 s) (r : Vals vs us)
    (h : ∀ a, H1 a = none → sp (.ref a :: vs) (upd H1 a (exo a C none)) (fun v H2 => v = .non ∧ Q (.ref a) H2) fun _ _ _ => False) : wpAny (model X.prog X.w) X.A (call (.ref C) us) (EP X pins σ Q) X.xe s := by
  obtain ⟨nm, q, N, bs, bm, sn, sub, ab, col, dd, k0, k1, k2, k3, k5, hC, hbm⟩ := T.oex.cls
  obtain ⟨hp, g, dr, tk, os⟩ := s
  have hn : H1 (hp.objs.size + 1) = none := I1.hok.fresh (Nat.le_succ _)
  have hq := h _ hn
  have l1 := F1.len _ _ _ _ hq
  have l2 : vs.length + 1 = ps.length := l1
  have lu : us.length = vs.length := r.length.symm
  have old : ∀ b o, hp.get? b = some o → ((hp.push (PySem.W.kdv_tup us)).push (PySem.HandSPX.excO C hp.objs.size)).get? b = some o := fun b o e => Heap.get?_push_of_some _ (Heap.get?_push_of_some _ e)
  have new : ((hp.push (PySem.W.kdv_tup us)).push (PySem.HandSPX.excO C hp.objs.size)).get? (hp.objs.size + 1) = some (PySem.HandSPX.excO C hp.objs.size) := by heap_get
  have I2 : Inv X pins σ (upd H1 (hp.objs.size + 1) (exo (hp.objs.size + 1) C none)) ⟨(hp.push (PySem.W.kdv_tup us)).push (PySem.HandSPX.excO C hp.objs.size), g, dr, tk, os⟩ :=
    I1.laid (t' := tk) (h' := (hp.push (PySem.W.kdv_tup us)).push (PySem.HandSPX.excO C hp.objs.size)) old (Nat.le_succ _) (exo_ok new)
  have b1 := hb ⟨(hp.push (PySem.W.kdv_tup us)).push (PySem.HandSPX.excO C hp.objs.size), g, dr, tk, os⟩ (Value.ref (hp.objs.size + 1) :: us) I2.kIn (by rw [List.append_nil, List.length_cons]; omega)
  rw [List.append_nil] at b1
  have sz : us.length ≤ sizeLine := by rw [sizeLine_eq]; omega
  refine wpAny_call (PySem.HandSPX.call_own PySem.F.excBase_ValueError (fun Y => PySem.HandSPX.refsVE_contains Y bm hbm) (I1.kIn _ _ hC) (PySem.W.looks_findIn I1.kIn iC) (fun self => PySem.W.bind_fn I1.kIn self tI) sz ?_)
  refine codeAny_mono (F1.run _ X.stack _ _ ⟨Value.ref (hp.objs.size + 1) :: us, []⟩ (Value.ref (hp.objs.size + 1) :: us) (V.ref (hp.objs.size + 1) :: vs) _ _ (hr.make C us []) (I2.env0.make C us []) b1 (.cons rfl r) hq) ?_
  intro res s2 z
  match res, z with
  | .error er, z => exact (hx pins σ _ _ er s2 I2 z)
  | .ok (.ret u), z =>
    obtain ⟨v, H2, J, rv, ev, q2⟩ := I2.after z
    subst ev
    exact ⟨rv, .ref (hp.objs.size + 1), H2, J, rfl, q2⟩
theorem pe_oex (T : ErrC X.K kind C) (iC : PySem.W.findIn X.K (.ref C) "__init__" = some (some (.ref fI))) (tI : PySem.W.typeIn X.K (.ref fI) = some (.type "function")) (F1 : FnOk X.prog X.w X.K X.mg X.base CX k fI fd ps sp) (hr : Room (k + 1) X.A)
    (hb : Binds X.K fd ps []) (hx : Passes CX X fun _ _ _ => False) (hps : ps.length ≤ 1000) (hg : Gl X x) (hm : X.mg x = some (.ref C)) (ha : PA X (e :: es) ta) (hdb : (x == ("__debug__" : Str)) = false := by decide)
    (he : starEach (e :: es) X.env = (false, eval e X.env) :: starEach es X.env := by rfl) (hpl : (backTo pos (starEach es X.env)).any (·.1) = false := by rfl) : PE X (.Call (.Name x p) (e :: es) [] pos) (tOex C sp ta) := by
  constructor
  intro pins s σ H Q I h
  refine wpAny_Call_Name_kw (ld_glob I hg hm ?_ hdb)
  refine PySem.W.callWith_K (h₀ := X.base) I.ok.mod.kin T.kp (thn (ha.run pos pins s σ H _ I h) ?_) he hpl
  rintro us s1 ⟨vs, H1, I1, r, q⟩
  exact ⟨I1.kIn, oex_run T iC tI F1 hr hb hx hps I1 r q⟩
theorem pe_oex0 (T : ErrC X.K kind C) (iC : PySem.W.findIn X.K (.ref C) "__init__" = some (some (.ref fI))) (tI : PySem.W.typeIn X.K (.ref fI) = some (.type "function")) (F1 : FnOk X.prog X.w X.K X.mg X.base CX k fI fd ps sp) (hr : Room (k + 1) X.A)
    (hb : Binds X.K fd ps []) (hx : Passes CX X fun _ _ _ => False) (hps : ps.length ≤ 1000) (hg : Gl X x) (hm : X.mg x = some (.ref C)) (hdb : (x == ("__debug__" : Str)) = false := by decide) : PE X (.Call (.Name x p) [] [] pos) (tOex C sp tNil) := by
  constructor
  intro pins s σ H Q I h
  refine wpAny_Call_Name_kw (ld_glob I hg hm ?_ hdb)
  exact PySem.W.callWith_K0 I.kIn T.kp (oex_run (us := []) (vs := []) T iC tI F1 hr hb hx hps I .nil h)
/-- C() of a class without own __init__ -/
def tOwn0 (C : Addr) : TE := fun _ H Q => ∀ a, H a = none → Q (.ref a) (upd H a (exo a C none))
theorem pe_own0 (T : ErrC X.K kind C) (q : PySem.W.excIn X.K C He.veBase "ValueError.__new__" = true) (hg : Gl X x) (hm : X.mg x = some (.ref C)) (hdb : (x == ("__debug__" : Str)) = false := by decide) : PE X (.Call (.Name x p) [] [] pos) (tOwn0 C) := by
  constructor
  intro pins s σ H Q I h
  refine wpAny_Call_Name_kw (ld_glob I hg hm ?_ hdb)
  refine PySem.W.callWith_K0 I.kIn T.kp ?_
  obtain ⟨bm, N, nm, qn, bs, hdct, sn, sub, ab, col, dd, k0, k1, k2, k3, k5, mN, hC, hN, hni, OT⟩ := exc_obj I.kIn q
  obtain ⟨hp, g, dr, tk, os⟩ := s
  refine wpAny_call_exc_subT PySem.F.excBase_ValueError OT hC hN hni (fun h' a hm => ?_) (by show 0 ≤ sizeLine; omega)
  have na : H a = none := I.hok.gone hm.new
  obtain ⟨t, ht, _⟩ := hm.there
  exact ⟨.ref a, upd H a (exo a C none), I.laidN (t' := tk) hm.keeps hm.new na (exo_ok ht), rfl, h a na⟩
end
end LL
set_option maxHeartbeats 4000000
/-! try: body / except C as n: .. / except D as m: .. -/
namespace LL
open PySem PySem.Spec PyProof.Rows L2
/-- one clause: its class, its name's slot, its suite -/
structure Cl where
  c : Value
  i : Nat
  ts : Addr → Value → Option Addr → TS
/-- behind a suite the name is gone -/
def gone (D : Ends) (i : Nat) : Ends := { nx := fun σ H => D.nx (σ.set i none) H, rt := D.rt, bk := fun σ H => D.bk (σ.set i none) H, ct := fun σ H => D.ct (σ.set i none) H }
def wCls (K : PySem.W.Frag) (W : WX) (D : Ends) : List Cl → WX
  | [] => W
  | q :: l => fun cls d σ H => ∃ b, PySem.W.exmOne K cls q.c = some b ∧ (b = true → ∀ a, H a = none → q.ts a cls d (gone D q.i) (σ.set q.i (some (.ref a))) H) ∧ (b = false → wCls K W D l cls d σ H)
/-- the clauses as the text has them -/
inductive Cls (X : Cx) : List ExceptHandler → List Cl → Prop
  | nil : Cls X [] []
  | cons {x n : Str} {q : Cl} {b : Stmt} {suite : List Stmt} {np pos : Pos} {hs : List ExceptHandler} {l : List Cl} (nm : Names X x q.c) (at_ : X.N[q.i]? = some n) (lo : X.env.kindOf n = some .local)
      (run : ∀ (a : Addr) (oe : Obj) (cls : Value) (d : Option Addr) (pn : List (Addr × Obj)), Zc cls d oe → (∃ vs, oe.data = .fields vs) → PSs (X.suite a ((a, oe) :: pn)) (b :: suite) (q.ts a cls d)) (r : Cls X hs l) :
      Cls X (.ExceptHandler (some (.Name x np)) (some n) (b :: suite) pos :: hs) (q :: l)
section
variable {X : Cx} {hs : List ExceptHandler} {l : List Cl} {W : WX}
/-- what is known where a clause is looked at: the error at a, flying over the ground B, the state I without it -/
structure Air (X : Cx) (pins : List (Addr × Obj)) (σ : L2.St) (H : Hp) (a : Addr) (B : Heap) (cls : Value) (d : Option Addr) (sI s : Shared) : Prop where
  I : Inv X pins σ H sI
  nb : ∀ b o, sI.heap.get? b = some o → b ∉ frs X.stack → B.get? b = some o
  up : sI.heap.UpToSlots s.heap
  fl : PySem.HandSPX.FlyingZ B X.stack a (Zc cls d) s.heap
  na : H a = none
  os : s.os = sI.os
  ag : AllBare s.gens
theorem Air.inv {pins : List (Addr × Obj)} {σ : L2.St} {H : Hp} {a : Addr} {B : Heap} {cls : Value} {d : Option Addr} {sI s : Shared} (y : Air X pins σ H a B cls d sI s) : Inv X pins σ H s := y.I.landed y.nb y.fl.1 y.up y.os y.ag
/-- the error's object, out of all frames -/
theorem Air.obj {pins : List (Addr × Obj)} {σ : L2.St} {H : Hp} {a : Addr} {B : Heap} {cls : Value} {d : Option Addr} {sI s : Shared} (y : Air X pins σ H a B cls d sI s) (hst : X.stack = X.env :: X.outer) (hf : X.env.frame = some X.env.locals) :
    ∃ oe vs, s.heap.get? a = some oe ∧ Zc cls d oe ∧ oe.data = .fields vs ∧ a ≠ X.env.locals ∧ a ∉ X.fs := by
  obtain ⟨oe, vs, e, z, dt⟩ := y.fl.there
  have out : a ∉ frs X.stack := fun hm => by
    obtain ⟨_, o2, e2, no⟩ := y.fl.2.2.1.mem hm
    rw [e] at e2
    cases e2
    exact no _ dt
  rw [hst] at out
  refine ⟨oe, vs, e, z, dt, fun q => out ?_, fun q => out ?_⟩
  · exact List.mem_filterMap.mpr ⟨X.env, List.mem_cons_self, by rw [hf, q]⟩
  · obtain ⟨v, h1, h2⟩ := List.mem_filterMap.mp q
    exact List.mem_filterMap.mpr ⟨v, List.mem_cons_of_mem _ h1, h2⟩
theorem handled {pos : Pos} (hst : X.stack = X.env :: X.outer) (hf : X.env.frame = some X.env.locals) (hN : X.N.Nodup) (tk : Takes X W) (D : Ends) {pins : List (Addr × Obj)} {a : Addr} {B : Heap} {cls : Value} {d : Option Addr} {σ : L2.St} {H : Hp} {sI : Shared}
    (hk : Cls X hs l) : ∀ {s : Shared}, Air X pins σ H a B cls d sI s → wCls X.K W D l cls d σ H → wpAny (model X.prog X.w) X.A (handleBy (.ref a) X.env hs) (SP X pins D) X.xe s := by
  induction hk with
  | nil =>
    intro s y w
    have w : W cls d σ H := w
    obtain ⟨hp, g, dr, t, os⟩ := s
    refine wpAny_handleBy_nil ?_
    unfold PySem.passOn
    obtain ⟨_, _, _, oe, vs, T, oT, ts, e, _, dt, h1, _⟩ := id y.fl
    refine wpAny_bind (wpAny_field e dt h1 ?_)
    rw [if_neg (show ¬ ((Value.ref T == Value.none) = true) from by simp)]
    have last : wpAny (model X.prog X.w) X.A (setFlight (.ref a) X.env.frame) (fun _ s2 => wpAny (model X.prog X.w) X.A (throw (.ref a) : Sem Flow) (SP X pins D) X.xe s2) X.xe ⟨hp, g, dr, t, os⟩ := by
      rw [hf]
      refine PySem.HandSPX.setFlight_upZ (L := X.env.locals) y.fl fun h2 hh up2 => wpAny_throw (tk _ _ ⟨a, B, sI, pins, σ, H, cls, d, rfl, y.I, y.nb, y.up.trans up2, .inr (.inr hh), y.na, y.os, y.ag, w⟩)
    first
      | exact wpAny_bind (wpAny_pure (wpAny_bind last))
      | exact wpAny_bind last
  | @cons x n q b suite np hpos hs2 l2 nm at_ lo run r ih =>
    intro s y w
    obtain ⟨ok, h1, yes, no⟩ := w
    have J := y.inv
    obtain ⟨oe, vs, e, z, dt, nL, nF⟩ := y.obj hst hf
    have S := J.suite e dt y.na nL nF
    obtain ⟨hp, g, dr, t, os⟩ := s
    have tyo : PySem.W.Looks (model X.prog X.w) hp (typeOf (.ref a)) cls := fun A Q E s k p => wpAny_typeOf_ref (k _ _ e) (by rw [z.1]; exact p)
    have look := PySem.W.exm_one (M := model X.prog X.w) J.kIn tyo h1
    refine wpAny_handleBy_cons (codeAny_handlers_test ?_) (by intro q; cases q)
    have named : ∀ {Q : Value → Shared → Prop} {E : Value → Shared → Prop}, Q q.c ⟨hp, g, dr, t, os⟩ → wpAny (model X.prog X.w) (X.A.mark (some (.ref a))) (eval (.Name x np) X.env) Q E ⟨hp, g, dr, t, os⟩ := by
      intro Q E k
      obtain ⟨hg, nd, m⟩ := nm
      rcases m with m | ⟨m, v, nn⟩
      · exact ld_glob (X := X.suite a ((a, oe) :: (X.pn ++ pins))) S hg m k nd
      · exact ld_blt (X := X.suite a ((a, oe) :: (X.pn ++ pins))) S hg m v k nn nd
    refine named (look.here ?_)
    cases ok with
    | false => exact ih y (no rfl)
    | true =>
      refine codeAny_handlers_suite_as (PySem.HandSPX.lands_againZ y.fl fun h2 fl2 up2 => ?_)
      have y2 : Air X pins σ H a B cls d sI ⟨h2, g, dr, t, os⟩ := ⟨y.I, y.nb, y.up.trans up2, fl2, y.na, y.os, y.ag⟩
      obtain ⟨oe2, vs2, e2, z2, dt2, nL2, nF2⟩ := y2.obj hst hf
      have S2 := y2.inv.suite e2 dt2 y.na nL2 nF2
      refine store_ok (X := X.suite a ((a, oe2) :: (X.pn ++ pins))) (v := .ref a) S2 hN at_ (.inl lo) rfl (fun s3 S3 => ?_) (.inr lo)
      refine wpAny_mono ((run a oe2 cls d (X.pn ++ pins) z2 ⟨_, dt2⟩).run [] s3 _ H _ S3 (yes rfl a y.na)) ?_ fun _ _ f => False.elim f
      intro fl s4 k
      have out : ∀ {σ4 : L2.St} {H4 : Hp} {R : Shared → Prop}, Inv (X.suite a ((a, oe2) :: (X.pn ++ pins))) [] σ4 H4 s4 → (∀ s5, Inv X pins (σ4.set q.i none) H4 s5 → R s5) →
          wpAny (model X.prog X.w) X.A (do bindName X.env n .none; unbindBehindTheSuite X.env n hpos) (fun _ s5 => R s5) X.xe s4 := fun S4 k4 => gone_ok (S4.unsuite y.I.ok) hN at_ lo k4
      match fl, k with
      | .next, ⟨σ4, H4, S4, k4⟩ => exact out S4 fun s5 J5 => ⟨_, _, J5, k4⟩
      | .brk, ⟨σ4, H4, S4, k4⟩ => exact out S4 fun s5 J5 => ⟨_, _, J5, k4⟩
      | .cont, ⟨σ4, H4, S4, k4⟩ => exact out S4 fun s5 J5 => ⟨_, _, J5, k4⟩
      | .ret u, ⟨v, σ4, H4, S4, r4, k4⟩ => exact out S4 fun s5 J5 => ⟨_, _, _, J5, r4, k4⟩
theorem ps_tryC {body : List Stmt} {h₀ : ExceptHandler} {pos : Pos} {tb : WX → TS} (hst : X.stack = X.env :: X.outer) (hf : X.env.frame = some X.env.locals) (hN : X.N.Nodup) (tk : Takes X W)
    (hb : ∀ (W : WX) (pn : List (Addr × Obj)) (xe : Value → Shared → Prop), Takes (X.tr pn xe) W → PassesOwn (model X.prog X.w) X.A X.env xe → PSs (X.tr pn xe) body (tb W)) (hk : Cls X (h₀ :: hs) l) :
    PS X (.Try body (h₀ :: hs) [] [] pos) (fun D σ H => tb (wCls X.K W D l) D σ H) := by
  constructor
  intro pins s σ H D I h
  have ok := I.ok
  have fr : X.A.frames = some (X.env :: X.outer) := by rw [ok.frames, hst]
  refine wpAny_Try_except (wpAny_mono ((hb (wCls X.K W D l) (X.pn ++ pins) (fun e s₁ => wpAny (model X.prog X.w) X.A (noteFrame e X.env) (fun _ s₂ => wpAny (model X.prog X.w) X.A (setFlight e none) (fun _ s₃ =>
    wpAny (model X.prog X.w) X.A (handleBy e X.env (h₀ :: hs)) (SP X pins D) X.xe s₃) X.xe s₂) X.xe s₁) ?_ PassesOwn.looking).run [] s σ H D (I.toTry _) h) ?_ fun _ _ z => z)
  · rintro u s' ⟨a, B, sI, pins', σ', H', cls, d, rfl, J', nb, up, sky, na, os, ag, w⟩
    have J : Inv X pins σ' H' sI := J'.ofTry ok
    have sk : Sky B (X.env :: X.outer) a (Zc cls d) X.env.locals s'.heap := by rw [← hst]; exact sky
    refine Sky.land Zc.steady fr hf sk fun h2 fl2 up2 => ?_
    rw [← hst] at fl2
    exact handled (pos := pos) hst hf hN tk D hk ⟨J, nb, up.trans up2, fl2, na, os, ag⟩ w
  · intro fl s1 k
    match fl, k with
    | .next, ⟨σ', H', J, q⟩ => exact wpAny_execs_nil ⟨σ', H', J.ofTry ok, q⟩
    | .brk, ⟨σ', H', J, q⟩ => exact ⟨σ', H', J.ofTry ok, q⟩
    | .cont, ⟨σ', H', J, q⟩ => exact ⟨σ', H', J.ofTry ok, q⟩
    | .ret u, ⟨v, σ', H', J, r, q⟩ => exact ⟨v, σ', H', J.ofTry ok, r, q⟩
end
/-- pe_xf with the caught error named by where it is pinned -/
theorem pe_xfP {X : Cx} {a C : Addr} {oe : Obj} {cls : Value} {d : Option Addr} {e : Expr} {te : TE} {pos : Pos} {n : Str} (hp : (a, oe) ∈ X.pn) (T : XfC X.K C) (hno : PySem.W.findIn X.K (.ref C) n = some none)
    (hz : Zc cls d oe) (hf : ∃ vs, oe.data = .fields vs) (he : PE X e te) (hb : attributeBase e n X.env (eval e X.env) = eval e X.env := by rfl) :
    PE X (.Attribute e n pos) (tXf a cls d C n te) := by
  refine ⟨fun pins s σ H Q I h => ?_⟩
  refine attr_of hb (thn (he.run pins s σ H _ I h) fun u s1 hh => ?_)
  obtain ⟨x, H1, I1, rx, ex, ec, dd, fs, v, ed, ea, l, q⟩ := hh
  subst ex
  obtain rfl : u = Value.ref a := rx
  subst ec
  subst ed
  obtain ⟨ha, _⟩ := I1.pin (a, oe) (List.mem_append_left _ hp)
  obtain ⟨vs, hd⟩ := hf
  have hx : ObjOk X.prog X.w H1 s1.heap dd (.xd fs) := I1.hok dd _ ea
  obtain ⟨mA, hns, hr⟩ := hx
  obtain ⟨od, ho, hl⟩ := lookIn_ns hns
  obtain ⟨u, hu, ru⟩ := RelO.some_of (v := v) (o := mA n) (by rw [← l]; exact hr n)
  have J : PySem.W.InstAt s1.heap a oe C (some od) := ⟨ha, hz.1, by unfold PySem.W.notCls; rw [hd] <;> rfl, by rw [hz.2]; exact ho⟩
  exact HandSPX.exc_get I1.kIn J T.ga T.gg T.exC (PySem.W.findObj_own T.hdC hno rfl (by rw [hl, hu])) (handed_of ru) ⟨v, H1, I1.tok _, ru, q⟩
end LL
set_option maxHeartbeats 4000000
/-! {k: v} where k is a tuple of ints and texts. -/
namespace LL
open PySem PySem.Spec PyProof.Rows L2
def tDisp1 (tk tv : TE) : TE := fun σ H Q => ∀ p, H p = none → tk σ (upd H p (.dT [])) fun x H1 => tv σ H1 fun y H2 => ∃ (b : Addr) (ks : List Key), x = .ref b ∧ H2 b = some (.tup (ks.map kV)) ∧ H2 p = some (.dT []) ∧ Q (.ref p) (upd H2 p (.dT [(ks, y)]))
theorem pe_disp1 {X : Cx} {k v : Expr} {pos : Pos} {tk tv : TE} (hu : X.A.units + 1 < cLine) (hk : PE X k tk) (hv : PE X v tv) : PE X (.Dict [some k] [v] pos) (tDisp1 tk tv) := by
  constructor
  intro pins s σ H Q I q
  have hn := I.hok.fresh (Nat.le_refl s.heap.objs.size)
  have I1 := I.laid (a := s.heap.objs.size) (o := .dT []) (h' := s.heap.push { cls := .type "dict", data := .dict #[] }) (t' := s.toks) (fun _ _ z => Heap.get?_push_of_some _ z) (Nat.le_refl _) (dt_empty s.heap I.big)
  rw [arm_eval_Dict, zip_pairTrees [some k] [v] X.env pos rfl rfl, dictDisplay_pairs _ (by simp [pairTrees]) (by simp [pairTrees])]
  refine wpAny_bind (wpAny_standAt (wpAny_bind ?_))
  unfold subDict
  refine wpAny_bind (wpAny_alloc (wpAny_bind (wpAny_holding ?_)))
  rw [if_pos (show (pairTrees [some k] [v] X.env pos).length ≤ 15 by simp [pairTrees])]
  refine wpAny_bind (pairTrees_cons_walk (thn (hk.run pins _ σ _ _ I1 (q _ hn)) ?_))
  rintro ku s1 ⟨x, H1, I2, rk, q1⟩
  refine thn (hv.run pins s1 σ H1 _ I2 q1) ?_
  rintro vu s2 ⟨y, H2, I3, rv, b, ks, rfl, hb, hp, q2⟩
  refine pairTrees_nil_walk (wpAny_holding ?_)
  cases (show ku = Value.ref b from rk)
  rw [List.forIn_cons]
  obtain ⟨z, hd, xs, kt, dd⟩ := dt_of I3.hok hp
  cases kt
  refine wpAny_bind (wpAny_bind (wpAny_bind (wpAny_dictSet_heap (hsz := Nat.zero_le _) (show X.A.units < cLine by omega) (key_of I3.hok hb) dd fun h' dd' hs => wpAny_pure ?_)))
  dsimp only
  rw [List.forIn_nil]
  refine wpAny_pure (wpAny_pure (wpAny_pure (wpAny_pure ⟨.ref s.heap.objs.size, upd H2 s.heap.objs.size (.dT [(ks, y)]), ?_, rfl, q2⟩)))
  obtain ⟨o, es, ep, e1, e2, e3, e4, e5, e6⟩ := dd'
  refine d_write I3 (by rw [hp]; exact True.intro) hs ⟨o, e1⟩ ⟨by simp [sizeLine_eq], hd, _, .cons (b := (ks, b, vu)) ⟨rfl, ?_, rv⟩ .nil, o, es, ep, e1, e2, e3, e4, e6⟩
  show upd H2 s.heap.objs.size (.dT [(ks, y)]) b = _
  rw [upd_ne (ne_of hb hp (fun z => nomatch z))]
  exact hb
end LL
set_option maxHeartbeats 4000000
/-! Defs by their names: a def that the top left, with its promise. -/
namespace LL
open PySem PySem.Spec PyProof.Rows L2
/-- the module's name x is a def that keeps sp -/
def Has (P : Program) (w : World) (K : PySem.W.Frag) (mg : Str → Option Value) (base : Heap) (CX : CXT) (x : Str) (k : Nat) (ps : List Str) (sp : Sp) : Prop :=
  ∃ f fd, mg x = some (.ref f) ∧ PySem.W.keepIn K (.ref f) = true ∧ Binds K fd ps [] ∧ FnOk P w K mg base CX k f fd ps sp
abbrev HasX (X : Cx) (CX : CXT) (x : Str) (k : Nat) (ps : List Str) (sp : Sp) : Prop := Has X.prog X.w X.K X.mg X.base CX x k ps sp
section
variable {X : Cx} {CX : CXT} {x : Str} {j k : Nat} {ps : List Str} {sp : Sp} {E : XK} {W : WX} {p pos : Pos} {e : Expr} {es : List Expr} {ta : TA}
theorem pe_callH (h : HasX X CX x k ps sp) (hr : Room j X.A) (hx : Passes CX X E) (ha : PA X (e :: es) ta) (hj : k ≤ j := by decide) (hg : Gl X x := by rfl) (hdb : (x == ("__debug__" : Str)) = false := by decide)
    (he : starEach (e :: es) X.env = (false, eval e X.env) :: starEach es X.env := by rfl) (hpl : (backTo pos (starEach es X.env)).any (·.1) = false := by rfl) : PE X (.Call (.Name x p) (e :: es) [] pos) (tCall sp [] E ta) := by
  obtain ⟨f, fd, hm, hk, hb, F⟩ := h
  exact pe_call F (hr.mono hj) hg hm hk hb .nil hx ha hdb he hpl
theorem pe_callH0 (h : HasX X CX x k ps sp) (hr : Room j X.A) (hx : Passes CX X E) (hj : k ≤ j := by decide) (hg : Gl X x := by rfl) (hdb : (x == ("__debug__" : Str)) = false := by decide) : PE X (.Call (.Name x p) [] [] pos) (tCall sp [] E tNil) := by
  obtain ⟨f, fd, hm, hk, hb, F⟩ := h
  exact pe_call0 F (hr.mono hj) hg hm hk hb .nil hx hdb
/-- in a try's body, what it lets out being wished for -/
theorem pe_callHS {C : Cx} (h : HasX C (L2.CX C.prog C.w) x k ps sp) (hr : Room j C.A) (tk : Takes C W) (ha : PA C (e :: es) ta) (hj : k ≤ j := by decide) (hg : Gl C x := by rfl) (hdb : (x == ("__debug__" : Str)) = false := by decide)
    (he : starEach (e :: es) C.env = (false, eval e C.env) :: starEach es C.env := by rfl) (hpl : (backTo pos (starEach es C.env)).any (·.1) = false := by rfl) : PE C (.Call (.Name x p) (e :: es) [] pos) (tCallS sp (WE W) ta) := by
  obtain ⟨f, fd, hm, hk, hb, F⟩ := h
  exact pe_callS F (hr.mono hj) hg hm hk hb (fun σ => passAt tk σ) ha hdb he hpl
end
theorem pe_ref {X : Cx} {x : Str} {C : Addr} {pos : Pos} (hm : X.mg x = some (.ref C)) (hg : Gl X x := by rfl) (hd : (x == ("__debug__" : Str)) = false := by decide) : PE X (.Name x pos) (tC (.ref C)) := pe_glob (v := .ref C) hg hm rfl hd
/-- a def of the text: its facts (a def of the top, under its own name) -/
abbrev FnT (K : PySem.W.Frag) (x : Str) (st : Stmt) (f : Addr) (fd : FuncData) : Prop := FunD K x x (defArgs st) (defBody st) (defScope st) [] [] f fd
end LL
set_option maxHeartbeats 4000000
/-! How deep a datum is, and how long its text. -/
namespace LL
open PySem PySem.Spec PyProof.Rows L2
structure Lim (n k : Nat) (d : PyData) : Prop where
  sh : d.showable = true
  dp : d.depth ≤ n
  ln : d.shown.length ≤ k
theorem Lim.mono {n k n' k' : Nat} {d : PyData} (h : Lim n k d) (h1 : n ≤ n') (h2 : k ≤ k') : Lim n' k' d := ⟨h.sh, Nat.le_trans h.dp h1, Nat.le_trans h.ln h2⟩
theorem slen (a b : Str) : (a ++ b).length = a.length + b.length := by
  first | exact PySem.StrLaws.length_append a b | exact Str.length_append a b
theorem join_len {k : Nat} : ∀ {ts : List Str}, (∀ t ∈ ts, t.length ≤ k) → (Str.join ", " ts).length ≤ (k + 2) * ts.length
  | [], _ => by
    have e : (Str.join ", " []).length = 0 := by decide
    omega
  | [x], h => by
    have := h x List.mem_cons_self
    show x.length ≤ _
    simp only [List.length_cons, List.length_nil]
    omega
  | x :: y :: r, h => by
    have h1 := h x List.mem_cons_self
    have h2 := join_len (ts := y :: r) fun t ht => h t (List.mem_cons_of_mem _ ht)
    show (x ++ (", " : Str) ++ Str.join ", " (y :: r)).length ≤ _
    rw [slen, slen]
    have e : (", " : Str).length = 2 := by decide
    rw [e, List.length_cons, Nat.mul_succ]
    omega
theorem shownAll_mem {k : Nat} : ∀ {xs : List PyData}, (∀ x ∈ xs, x.shown.length ≤ k) → ∀ t ∈ PyData.shownAll xs, t.length ≤ k
  | [], _, t, ht => by
    rw [PyData.shownAll_nil] at ht
    cases ht
  | x :: xs, h, t, ht => by
    rw [PyData.shownAll_cons] at ht
    rcases List.mem_cons.mp ht with e | e
    · rw [e]
      exact h x List.mem_cons_self
    · exact shownAll_mem (fun y hy => h y (List.mem_cons_of_mem _ hy)) t e
theorem showAll {xs : List PyData} (h : ∀ x ∈ xs, PyData.showable x = true) : PyData.showableAll xs = true := by
  induction xs with
  | nil => simp only [PyData.showableAll]
  | cons x xs ih =>
    simp only [PyData.showableAll, Bool.and_eq_true]
    exact ⟨h x List.mem_cons_self, ih fun y hy => h y (List.mem_cons_of_mem _ hy)⟩
theorem depAll {n : Nat} {xs : List PyData} (h : ∀ x ∈ xs, PyData.depth x ≤ n) : PyData.depthAll xs ≤ n := by
  induction xs with
  | nil => simp only [PyData.depthAll]; omega
  | cons x xs ih =>
    simp only [PyData.depthAll]
    have h1 := h x List.mem_cons_self
    have h2 := ih fun y hy => h y (List.mem_cons_of_mem _ hy)
    omega
theorem Lim.list {n k : Nat} {xs : List PyData} (h : ∀ x ∈ xs, Lim n k x) : Lim (n + 1) ((k + 2) * xs.length + 2) (.list xs) := by
  refine ⟨by simp only [PyData.showable]; exact showAll fun x hx => (h x hx).sh, by simp only [PyData.depth]; exact Nat.succ_le_succ (depAll fun x hx => (h x hx).dp), ?_⟩
  rw [PyData.shown_list, slen, slen]
  have e1 : ("[" : Str).length = 1 := by decide
  have e2 : ("]" : Str).length = 1 := by decide
  have e3 := join_len (shownAll_mem fun x hx => (h x hx).ln)
  rw [PyData.shownAll_length] at e3
  rw [e1, e2]
  omega
theorem Lim.tuple {n k : Nat} {xs : List PyData} (h : ∀ x ∈ xs, Lim n k x) : Lim (n + 1) ((k + 2) * xs.length + 3) (.tuple xs) := by
  refine ⟨by simp only [PyData.showable]; exact showAll fun x hx => (h x hx).sh, by simp only [PyData.depth]; exact Nat.succ_le_succ (depAll fun x hx => (h x hx).dp), ?_⟩
  rw [PyData.shown_tuple, slen, slen]
  have e1 : ("(" : Str).length = 1 := by decide
  have e2 : (Str.ofString (if (xs.length == 1) = true then ",)" else ")" : String)).length ≤ 2 := by
    split <;> decide
  have e3 := join_len (shownAll_mem fun x hx => (h x hx).ln)
  rw [PyData.shownAll_length] at e3
  rw [e1]
  omega
theorem Lim.dict0 : Lim 1 2 (.dict []) := ⟨by simp only [PyData.showable, PyData.showableKv], by simp only [PyData.depth, PyData.depthKv]; omega, by
  rw [PyData.shown_dict, PyData.shownKv_nil]
  decide⟩
theorem Lim.dict1 {n i j : Nat} {k v : PyData} (hk : Lim n i k) (hv : Lim n j v) : Lim (n + 1) (i + j + 4) (.dict [(k, v)]) := by
  refine ⟨by simp only [PyData.showable, PyData.showableKv, hk.sh, hv.sh, Bool.and_self], by simp only [PyData.depth, PyData.depthKv]; have := hk.dp; have := hv.dp; omega, ?_⟩
  rw [PyData.shown_dict, PyData.shownKv_cons, PyData.shownKv_nil, slen, slen]
  have e1 : ("{" : Str).length = 1 := by decide
  have e2 : ("}" : Str).length = 1 := by decide
  have e4 : (": " : Str).length = 2 := by decide
  rw [e1, e2]
  show 1 + (k.shown ++ (": " : Str) ++ v.shown).length + 1 ≤ _
  rw [slen, slen, e4]
  have := hk.ln
  have := hv.ln
  omega
theorem Lim.non : Lim 0 4 .none := ⟨by simp only [PyData.showable], by simp only [PyData.depth]; omega, by rw [PyData.shown_none]; decide⟩
theorem Lim.bool (b : Bool) : Lim 0 5 (.bool b) := ⟨by simp only [PyData.showable], by simp only [PyData.depth]; omega, by rw [PyData.shown_bool]; cases b <;> decide⟩
theorem Lim.int {i : Int} {k : Nat} (hk : 0 < k) (h : i.natAbs < 10 ^ k) (hl : i.natAbs.log2 < 1920) : Lim 0 (k + 1) (.int i) := by
  refine ⟨by simp only [PyData.showable]; exact decide_eq_true hl, by simp only [PyData.depth]; omega, ?_⟩
  rw [PyData.shown_int]
  have e := int_text_length_le10 hk h
  show (Str.ofString (toString i)).length ≤ _
  rw [PySem.ofString_length]
  exact e
theorem Lim.str {x : Str} {k : Nat} (h : (reprText x).length ≤ k) : Lim 0 k (.str x) := ⟨by simp only [PyData.showable], by simp only [PyData.depth]; omega, by rw [PyData.shown_str]; exact h⟩
theorem Lim.pair {n i j : Nat} {a b : PyData} (ha : Lim n i a) (hb : Lim n j b) : Lim (n + 1) (i + j + 4) (.tuple [a, b]) := by
  refine ⟨by simp only [PyData.showable, PyData.showableAll, ha.sh, hb.sh, Bool.and_self], by simp only [PyData.depth, PyData.depthAll]; have := ha.dp; have := hb.dp; omega, ?_⟩
  rw [PyData.shown_tuple, PyData.shownAll_cons, PyData.shownAll_cons, PyData.shownAll_nil, slen, slen]
  have e1 : ("(" : Str).length = 1 := by decide
  have e2 : (Str.ofString (if ([a, b].length == 1) = true then ",)" else ")" : String)).length = 1 := by
    show (Str.ofString ")").length = 1; decide
  have e4 : (", " : Str).length = 2 := by decide
  rw [e1, e2]
  show 1 + (a.shown ++ (", " : Str) ++ b.shown).length + 1 ≤ _
  rw [slen, slen, e4]
  have := ha.ln
  have := hb.ln
  omega
end LL
set_option maxHeartbeats 0
namespace K00
open PySem PySem.Spec PyProof.Rows L2
abbrev P0 : Program := PySem.Challenge.pw_nearestkinds_k00_errors_keep_what_is_pas
def top (i : Nat) : Stmt := P0.main.body.getD i (.Pass ⟨0, 0, 0, 0⟩)
/-- the names of the errors, in the law's order, with the place of their class in the text -/
def errs : List (Str × Nat) := [("BadBook", 2), ("BadTable", 3), ("BadProgram", 4), ("BadText", 5), ("TooMany", 6), ("NoName", 10), ("Kept", 11), ("NeedsItself", 7), ("Unclear", 8), ("Unmet", 9),
  ("NoSorts", 12), ("NoUse", 13), ("NoFacts", 14), ("NoRow", 15), ("NoLot", 16), ("NoWish", 17), ("NoTree", 18), ("NoFamily", 19), ("NoMany", 20), ("NoTerm", 21), ("NoStanding", 22), ("NoLine", 23), ("NoText", 24),
  ("NothingDone", 25), ("NotClear", 26), ("NotRooted", 27), ("OtherPlaces", 28), ("TooGreat", 29)]
def dI (x q : Str) (i : Nat) : He.DefD := ⟨(x, some "__init__"), "__init__", q, defArgs (inClass (top i) 0), defBody (inClass (top i) 0), defScope (inClass (top i) 0), [], []⟩
def dF (x : Str) (i : Nat) : He.DefD := ⟨(x, none), x, x, defArgs (top i), defBody (top i), defScope (top i), [], []⟩
def fnI : List He.DefD := [dI "BadBook" "BadBook.__init__" 2, dI "BadTable" "BadTable.__init__" 3, dI "BadProgram" "BadProgram.__init__" 4, dI "BadText" "BadText.__init__" 5, dI "TooMany" "TooMany.__init__" 6,
  dI "NoName" "NoName.__init__" 10, dI "Kept" "Kept.__init__" 11, dI "NeedsItself" "NeedsItself.__init__" 7, dI "Unclear" "Unclear.__init__" 8, dI "Unmet" "Unmet.__init__" 9,
  dI "NoSorts" "NoSorts.__init__" 12, dI "NoUse" "NoUse.__init__" 13, dI "NoFacts" "NoFacts.__init__" 14, dI "NoRow" "NoRow.__init__" 15, dI "NoLot" "NoLot.__init__" 16, dI "NoWish" "NoWish.__init__" 17,
  dI "NoTree" "NoTree.__init__" 18, dI "NoFamily" "NoFamily.__init__" 19, dI "NoMany" "NoMany.__init__" 20, dI "NoTerm" "NoTerm.__init__" 21, dI "NoStanding" "NoStanding.__init__" 22, dI "NoLine" "NoLine.__init__" 23,
  dI "NoText" "NoText.__init__" 24, dI "NothingDone" "NothingDone.__init__" 25, dI "NotClear" "NotClear.__init__" 26, dI "NotRooted" "NotRooted.__init__" 27, dI "OtherPlaces" "OtherPlaces.__init__" 28, dI "TooGreat" "TooGreat.__init__" 29]
def fnL : List He.DefD := [dF "_law_hand" 31, dF "_law_draw" 32, dF "_law_some" 33, dF "_law_thing" 34, dF "_law_made" 35, dF "_law_kinds" 36, dF "_law_fields" 37, dF "_law_raise" 38, dF "_law_caught" 39, dF "_law_is_based" 40, dF "law" 41]
def frees : List Str := ["abs", "int", "len", "range", "isinstance", "ValueError", "repr", "enumerate", "any"]
/-- an error's class, as the heap has it: its own type, the base's, ValueError's line; how it is made, read, asked -/
def errB (K : PySem.W.Frag) (kind C : Addr) : Bool :=
  (match K.lookup C with
    | some ⟨.type "type", _, .cls cd, sl⟩ => (match cd.mro, sl.toList with
      | .ref C' :: bm, [_, _, _, _, some (.builtin n), _] => C' == C && n == "ValueError.__new__" && !cd.hasDel && cd.hasDict && (bm == .ref kind :: PySem.HandSPX.veTail || (C == kind && bm == PySem.HandSPX.veTail))
      | _, _ => false)
    | _ => false) &&
  (He.eqO (PySem.W.findIn K (.ref C) "__setattr__") (some (some (.builtin "object.__setattr__"))) && (He.eqO (PySem.W.findIn K (.ref C) "__getattribute__") (some (some (.builtin "BaseException.__getattribute__"))) &&
  (He.eqO (PySem.W.findIn K (.ref C) "__getattr__") (some none) && (He.eqO (PySem.W.findIn K (.ref C) "__class__") (some (some (.builtin "object.__class__"))) && PySem.W.keepIn K (.ref C)))))
/-- all facts of the errors -/
def errAll (K : PySem.W.Frag) : Bool :=
  (errs.all fun e => errB K (He.ga K "KindError") (He.ga K e.1)) && (errB K (He.ga K "KindError") (He.ga K "KindError") && (decide (((("KindError" : Str) :: errs.map (·.1)).map (He.ga K)).Nodup) &&
    PySem.W.excIn K (He.ga K "KindError") He.veBase "ValueError.__new__"))
def noat : List (Str × Str) := [("BadBook", "part"), ("BadTable", "part"), ("BadProgram", "part"), ("BadText", "place"), ("TooMany", "most"), ("NoName", "name"), ("Kept", "name"),
  ("NeedsItself", "family"), ("NeedsItself", "use"), ("Unclear", "family"), ("Unclear", "use"), ("Unmet", "family"), ("Unmet", "use")]
def fa : List He.Fa := errs.map (fun e => .glo e.1) ++ (He.Fa.glo "KindError" :: (fnL.map fun d => .glo d.name) ++ frees.map .free ++ noat.map (fun p => .noat p.1 p.2) ++ errs.map (fun e => .meth e.1 "__init__"))
def fn : List He.DefD := fnI ++ fnL
/-- the own Hook: HeadHook2's facts, the errors' -/
abbrev AlX : Type := Bool × He.AlD
def frX (g : Addr → Option Obj) (n : Nat) : PySem.W.Frag := He.frG g (sysModules :: He.asD g n)
def obsX (K : PySem.W.Frag) : AlX := (errAll K && (match K.lookup sysModules with
  | some ⟨.type "dict", _, _, _⟩ => true
  | _ => false), He.obsD fa fn K)
def SaysX (K : PySem.W.Frag) : Prop := obsX K = (true, He.valD fn)
def obsXG (n : Nat) (g : Addr → Option Obj) : AlX := obsX (frX g n)
def hookX (n : Nat) : PySem.W.Hook where
  α := AlX
  obs := fun s => obsXG n s.heap.get?
  val := fun _ => (true, He.valD fn)
  says := fun _ h => ∃ K : PySem.W.Frag, K.In h ∧ SaysX K
  of := fun _ _ e => ⟨_, He.frG_in, e⟩
  keeps := fun _ _ _ ⟨K, hK, c⟩ k => ⟨K, PySem.W.Frag.In.keeps hK k, c⟩
abbrev R : PySem.W.OpenRow := PySem.W.OpenLaw.row PySem.Challenge.rw_nearestkinds_k00_errors_keep_what_is_pas
abbrev hk : PySem.W.Hook := hookX 4
def ob (s : PySem.W.SharedT) : AlX := obsXG 4 (HandSHeadRun.getT s)
theorem ob_eq (s : PySem.W.SharedT) : ob s = hk.obs s.abs := by
  have e : HandSHeadRun.getT s = s.abs.heap.get? := funext (HandSHeadRun.getT_eq s)
  show obsXG 4 (HandSHeadRun.getT s) = obsXG 4 s.abs.heap.get?
  rw [e]
def loose : List Str := errs.map (·.1) ++ (("KindError" : Str) :: ["_law_hand", "_law_draw", "_law_some", "_law_thing", "_law_made", "_law_kinds", "_law_fields", "_law_raise", "_law_caught", "_law_is_based"])
abbrev qv : Program := PySem.W.view R.prog [41]
end K00
set_option maxHeartbeats 0
namespace K00
open PySem PySem.Spec PyProof.Rows L2
theorem run (w : World) : HandSHeadRun.RunEq R qv hk ob 12000 loose w := by
  intro os
  kernel_rfl
end K00
set_option maxHeartbeats 8000000
/-! The hand that draws: _law_hand, _law_draw, _law_some. -/
namespace K00
open PySem PySem.Spec PyProof.Rows L2 Evl LL
/-- the names that stay the built-ins' own -/
structure Fr (mg : Str → Option Value) : Prop where
  abs : mg "abs" = none
  int : mg "int" = none
  len : mg "len" = none
  range : mg "range" = none
  isinstance : mg "isinstance" = none
  ValueError : mg "ValueError" = none
  repr : mg "repr" = none
  enumerate : mg "enumerate" = none
  any : mg "any" = none
/-- the hand at l: the cells' list, the next one's place, what is left of a great one, the mix, how many were mixed -/
def Hand (H : Hp) (l : Addr) : Prop := ∃ (c : Addr) (ns : List Int) (i g m t : Int), H l = some (.lst [.ref c, .int i, .int g, .int m, .int t]) ∧ H c = some (.lst (ns.map V.int)) ∧ 0 ≤ i ∧ ns.length ≤ 63
theorem Hand.mono {H H' : Hp} {l : Addr} (e : Ex H H') (h : Hand H l) : Hand H' l := by
  obtain ⟨c, ns, i, g, m, t, h1, h2, h3⟩ := h
  exact ⟨c, ns, i, g, m, t, e _ _ h1, e _ _ h2, h3⟩
def spHand (K : PySem.W.Frag) : Sp := fun vs H Q _ => ∃ (a : Addr) (ns : List Int), vs = [.ref a] ∧ SqL K H a (ns.map V.int) ∧ ns.length ≤ 63 ∧ ∀ l H', H l = none → Ex H H' → Hand H' l → Q (.ref l) H'
def spDraw : Sp := fun vs H Q _ => ∃ (l : Addr) (n : Int), vs = [.ref l, .int n] ∧ 1 ≤ n ∧ n < 1073741824 ∧ Hand H l ∧ ∀ f H', 0 ≤ f → f < n → Exl l H H' → Hand H' l → Q (.int f) H'
def spSome : Sp := fun vs H Q _ => ∃ (l p : Addr) (xs : List V), vs = [.ref l, .ref p] ∧ p ≠ l ∧ H p = some (.lst xs) ∧ xs ≠ [] ∧ xs.length ≤ 1000 ∧ Hand H l ∧ ∀ v H', v ∈ xs → Exl l H H' → Hand H' l → Q v H'
theorem cut_ints (ns : List Int) (lo hi : Option Int) : ∃ ms : List Int, cutV (ns.map V.int) lo hi = ms.map V.int ∧ ms.length ≤ ns.length := by
  refine ⟨(ns.drop (HT.sIx (ns.map V.int).length 0 lo)).take (HT.sIx (ns.map V.int).length (ns.map V.int).length hi - HT.sIx (ns.map V.int).length 0 lo), ?_, ?_⟩
  · unfold cutV
    rw [List.map_take, List.map_drop]
  · rw [List.length_take, List.length_drop]
    omega
def absI (n : Int) : Int := if n < 0 then -n else n
section
variable {P : Program} {w : World} {K : PySem.W.Frag} {mg : Str → Option Value} {base : Heap} {f : Addr} {fd : FuncData}
theorem scH : FnScope ["script", "cells", "cell"] ["script"] (defScope (top 31)) := ⟨rfl, rfl, rfl, by decide +kernel, rfl, by decide +kernel, by decide +kernel⟩
theorem ok_hand (F : FnT K "_law_hand" (top 31) f fd) (T : Fr mg) : FnOk P w K mg base CX0 1 f fd ["script"] (spHand K) := by
  have sc := scH
  refine F.ok scH (fun vs H Q E h => ?_) (fun cdv A outer s H vs Q E hr h => ?_)
  · obtain ⟨a, ns, rfl, _⟩ := h
    rfl
  refine ⟨_, PSs.nox (pss_cons (ps_setLc (i := 1) (own := [("cell", 2)]) (tt := tYes) rfl sc.nd rfl rfl (sw_true rfl rfl rfl (by decide +kernel)) (pi_list (pe_slice sl_list (pv 0) po_none (po_some pe_int))) (blkOk_by (N := ["script", "cells", "cell"]) (sc := defScope (top 31)) (by decide +kernel)) (fun _ _ _ _ _ => (pg_name (i := 2) sc.nd rfl (Or.inl rfl))) (fun _ _ _ _ _ => pts_nil) (fun _ _ _ _ _ => (pe_callB call_abs (by rfl) T.abs (by decide +kernel) (pa_cons (pe_callTy call_int1 (by rfl) T.int (by decide +kernel) (pa_cons (pv 2) pa_nil)) pa_nil))))
      (pss_one (ps_ret (pe_lst (pa_cons (pv 1) (pa_cons pe_int (pa_cons pe_int (pa_cons (pe_op op_add pe_int (pe_op op_mul pe_int (pe_callB call_len (by rfl) T.len (by decide +kernel) (pa_cons (pv 1) pa_nil)))) (pa_cons pe_int pa_nil))))))))), ?_⟩
  obtain ⟨a, ns, rfl, hS, hl, k⟩ := h
  obtain ⟨ms, e1, e2⟩ := cut_ints ns none (some 63)
  refine q_asgL (el_lcNL (fun _ => true) (fun i => .int (absI (ms[i]?.getD 0))) (xs := ms.map V.int) ?_ (by rw [List.length_map]; omega) (fun x => rfl) (fun i x H1 e hx => ?_) (fun i x H1 e hx _ => ?_)) ?_
  · rw [← e1]
    exact el_sl (ev_var rfl) eo_none (eo_some ev_c) hS
  · exact fun H2 _ Q q => q H2 (Ex.refl H2)
  · rw [List.getElem?_map] at hx
    obtain ⟨n, hn, rfl⟩ := Option.map_eq_some_iff.mp hx
    rw [hn]
    refine ev_cb (ea_cons (ev_cb (ea_cons (ev_var rfl) ea_nil) (fun H2 _ Q q => .inl ⟨n, rfl, q H2 (Ex.refl H2)⟩)) ea_nil) (fun H2 _ Q q => ⟨n, rfl, q H2 (Ex.refl H2)⟩)
  · intro c H1 hc e1 h1
    have e3 : given (ms.map V.int).length (fun _ => true) (fun i => V.int (absI (ms[i]?.getD 0))) = ((List.range (ms.map V.int).length).map fun i => absI (ms[i]?.getD 0)).map V.int := by
      unfold given
      rw [List.filter_eq_self.mpr (fun _ _ => rfl), List.map_map]
      rfl
    rw [e3] at h1
    obtain ⟨ks, hk⟩ : ∃ ks : List Int, ks = (List.range (ms.map V.int).length).map fun i => absI (ms[i]?.getD 0) := ⟨_, rfl⟩
    rw [← hk] at h1
    have kl : ks.length ≤ 63 := by
      rw [hk, List.length_map, List.length_range, List.length_map]
      omega
    refine s_retL (el_lst (ea_cons (ev_var rfl) (ea_cons ev_c (ea_cons ev_c (ea_cons (ev_op ev_c (ev_op ev_c (ev_cb (z := .int ((ks.map V.int).length : Nat)) (ea_cons (ev_var rfl) ea_nil) ?len) (rv_I (Or.inl ⟨by decide, by decide⟩))) rv_I0) (ea_cons ev_c ea_nil))))) (by show 5 ≤ 100000; decide)) ?_
    case len =>
      exact fun H2 e Q q => ⟨_, _, rfl, .inl ⟨_, sq_of (e c _ h1), rfl⟩, q H2 (Ex.refl H2)⟩
    · intro p H2 hp e4 h2
      refine k p H2 (fresh_back e1 hp) (e1.trans e4) ⟨c, ks, _, _, _, _, h2, e4 c _ h1, by decide, kl⟩
theorem scD : FnScope ["hand", "many", "number", "cell", "figure"] ["hand", "many"] (defScope (top 32)) := ⟨rfl, rfl, rfl, by decide +kernel, rfl, by decide +kernel, by decide +kernel⟩
theorem ev_hand {σ : L2.St} {H : Hp} {l : Addr} {xs : List V} {j : Int} {v : V} (h0 : σ[0]? = some (some (.ref l))) (h : H l = some (.lst xs)) (ha : atI xs j = some v) : Ev (tOp (rIxL K) (tVar 0) (tC (.int j))) σ H v := ev_op (ev_var h0) ev_c (rv_ixL (sq_of h) ha)
theorem rc_int {H : Hp} {i : Int} {r : List V → Hp → VK → Prop} (h : ∀ H1 Q, Q (.int i) H1 → r [.int i] H1 Q) : RC r [.int i] H (.int i) := fun H1 _ Q q => h H1 Q (q H1 (Ex.refl H1))
theorem fm_nn {a b : Int} (h : 0 < b) : 0 ≤ a.fmod b ∧ a.fmod b < b := ⟨Int.fmod_nonneg_of_pos a h, Int.fmod_lt_of_pos a h⟩
section
variable {σ : L2.St} {H : Hp} {D : Ends} {ta tb te : TE} {tz : TS} {l : Addr} {xs ys : List V} {j : Nat} {v : V}
/-- xs[j] = e, told by what stands behind -/
theorem s_setX (hl : H l = some (.lst xs)) (h : Ev te σ H v) (ho : Ev ta σ H (.ref l)) (hi : Ev tb σ H (.int (j : Int))) (hj : j < xs.length) (hy : xs.set j v = ys) (k : ∀ G, G l = some (.lst ys) → Exl l H G → D.nx σ G) : tAsg te (gSub ta tb rSetL) D σ H :=
  s_setL hl h ho hi hj fun H1 e => k _ (by rw [hy]; exact upd_same) ((Exl.of e).trans Exl.upd)
theorem q_setX (hl : H l = some (.lst xs)) (h : Ev te σ H v) (ho : Ev ta σ H (.ref l)) (hi : Ev tb σ H (.int (j : Int))) (hj : j < xs.length) (hy : xs.set j v = ys) (k : ∀ G, G l = some (.lst ys) → Exl l H G → tz D σ G) : tSeq (tAsg te (gSub ta tb rSetL)) tz D σ H :=
  s_setX (D := { D with nx := tz D }) hl h ho hi hj hy k
end
theorem ok_draw (F : FnT K "_law_draw" (top 32) f fd) (T : Fr mg) : FnOk P w K mg base CX0 1 f fd ["hand", "many"] spDraw := by
  have sc := scD
  refine F.ok scD (fun vs H Q E h => ?_) (fun cdv A outer s H vs Q E hr h => ?_)
  · obtain ⟨l, n, rfl, _⟩ := h
    rfl
  refine ⟨_, PSs.nox (pss_cut (ps_if (PW.pt (pw_and (pt_cmpR op_eq (pe_ix ix_list (pv 0) pe_int (fun _ _ => rfl)) pe_int (nomark _)) (pw_and1 (pt_cmpR op_lt (pe_ix ix_list (pv 0) pe_int (fun _ _ => rfl)) (pe_callB call_len (by rfl) T.len (by decide +kernel) (pa_cons (pe_ix ix_list (pv 0) pe_int (fun _ _ => rfl)) pa_nil)) (nomark _))))) (pss_cons (ps_set (i := 3) sc.nd rfl (Or.inl rfl) (pe_ix ix_list (pe_ix ix_list (pv 0) pe_int (fun _ _ => rfl)) (pe_ix ix_list (pv 0) pe_int (fun _ _ => rfl)) (fun _ _ => rfl)))
      (pss_cons (ps_asg (pe_op op_add (pe_ix ix_list (pv 0) pe_int (fun _ _ => rfl)) pe_int) (pg_sub (pv 0) pe_int set_list))
      (pss_cons (ps_asg (pe_op op_modN (pe_callTy call_int1 (by rfl) T.int (by decide +kernel) (pa_cons (pe_op op_add (pe_op op_add (pe_op op_mul (pe_ix ix_list (pv 0) pe_int (fun _ _ => rfl)) pe_int) (pv 3)) pe_int) pa_nil)) pe_int) (pg_sub (pv 0) pe_int set_list))
      (pss_one (ps_if (pt_cmpR op_ge (pv 3) (pe_op op_pow pe_int pe_int) (nomark _)) (pss_one (ps_asg (pv 3) (pg_sub (pv 0) pe_int set_list))) pss_nil))))) pss_nil)
      (pss_cons (ps_if (pt_cmpR op_gt (pe_ix ix_list (pv 0) pe_int (fun _ _ => rfl)) pe_int (nomark _)) (pss_cons (ps_set (i := 4) sc.nd rfl (Or.inl rfl) (pe_op op_modN (pe_callTy call_int1 (by rfl) T.int (by decide +kernel) (pa_cons (pe_ix ix_list (pv 0) pe_int (fun _ _ => rfl)) pa_nil)) (pv 1)))
      (pss_cons (ps_asg (pe_op op_fdivN (pe_ix ix_list (pv 0) pe_int (fun _ _ => rfl)) (pv 1)) (pg_sub (pv 0) pe_int set_list))
      (pss_one (ps_ret (pv 4))))) pss_nil)
      (pss_cons (ps_asg (pe_op op_add (pe_ix ix_list (pv 0) pe_int (fun _ _ => rfl)) pe_int) (pg_sub (pv 0) pe_int set_list))
      (pss_cons (ps_set (i := 2) sc.nd rfl (Or.inl rfl) (pe_op op_modN (pe_callTy call_int1 (by rfl) T.int (by decide +kernel) (pa_cons (pe_op op_mul (pe_callTy call_int1 (by rfl) T.int (by decide +kernel) (pa_cons (pe_op op_add (pe_ix ix_list (pv 0) pe_int (fun _ _ => rfl)) (pe_op op_mul pe_int (pe_ix ix_list (pv 0) pe_int (fun _ _ => rfl)))) pa_nil)) pe_int) pa_nil)) pe_int))
      (pss_cons (ps_set (i := 2) sc.nd rfl (Or.inl rfl) (pe_op op_modN (pe_callTy call_int1 (by rfl) T.int (by decide +kernel) (pa_cons (pe_op op_mul (pv 2) (pe_op op_add (pe_op op_fdivN (pv 2) pe_int) pe_int)) pa_nil)) pe_int))
      (pss_cons (ps_set (i := 2) sc.nd rfl (Or.inl rfl) (pe_op op_modN (pe_callTy call_int1 (by rfl) T.int (by decide +kernel) (pa_cons (pe_op op_mul (pv 2) (pe_op op_add (pe_op op_fdivN (pv 2) pe_int) pe_int)) pa_nil)) pe_int))
      (pss_one (ps_ret (pe_op op_modN (pe_callTy call_int1 (by rfl) T.int (by decide +kernel) (pa_cons (pe_op op_fdivN (pv 2) pe_int) pa_nil)) (pv 1)))))))))), ?_⟩
  obtain ⟨l, n, rfl, n1, n2, hh, k⟩ := h
  -- Mid: behind the first if
  refine q_cut (M := fun σ H' => (∃ a b c, σ = [some (.ref l), some (.int n), a, b, c]) ∧ Exl l H H' ∧ Hand H' l) ?first ?rest
  case first =>
    obtain ⟨c, ns, i, g, m, t, h1, h2, hi, hl⟩ := hh
    have cl : c ≠ l := fun e => by
      rw [e, h1] at h2
      cases ns <;> simp at h2
    refine s_if (b := decide (g = 0) && decide (i < (ns.length : Nat))) ?t ?yes ?nay
    case t =>
      refine et_and (et_test (ev_is (ev_op (ev_hand rfl h1 (v := .int g) rfl) ev_c (rv_eq rfl)) ?_)) fun _ => et_test (ev_is (ev_op (ev_hand rfl h1 (v := .int i) rfl) (ev_cb (z := .int (ns.length : Nat)) (ea_cons (ev_hand rfl h1 (v := .ref c) rfl) ea_nil) ?_) rv_I0) ?_)
      · by_cases e : g = 0 <;> simp [e]
      · exact fun H2 e Q q => ⟨_, _, rfl, .inl ⟨_, sq_of (e c _ h2), (List.length_map ..).symm⟩, q H2 (Ex.refl H2)⟩
      · rfl
    case nay => exact fun _ H1 e => ⟨⟨_, _, _, rfl⟩, Exl.of e, Hand.mono e ⟨c, ns, i, g, m, t, h1, h2, hi, hl⟩⟩
    case yes =>
      intro hb H1 e1
      obtain ⟨hg, hlt⟩ : g = 0 ∧ i < (ns.length : Nat) := by simpa using hb
      obtain ⟨j, rfl⟩ : ∃ j : Nat, i = (j : Int) := ⟨i.toNat, by omega⟩
      have hj : j < ns.length := by omega
      have c1 := e1 _ _ h1
      have d1 := e1 _ _ h2
      refine q_asg (v := .int ns[j]) (ev_op (ev_hand rfl c1 (v := .ref c) rfl) (ev_hand rfl c1 (v := .int (j : Int)) rfl) (rv_ixL (sq_of d1) (atI_nat (by simp [hj])))) fun H2 e2 => ?_
      have c2 := e2 _ _ c1
      have d2 := e2 _ _ d1
      refine q_setX (j := 1) (v := .int ((j : Int) + 1)) c2 (ev_op (ev_hand rfl c2 (v := .int (j : Int)) rfl) ev_c rv_I0) (ev_var rfl) ev_c (by show 1 < 5; decide) rfl fun H3 c3 e3 => ?_
      refine q_setX (j := 3) (v := .int ((m * 48271 + ns[j] + 31).fmod 2147483647)) c3
        (ev_op (ev_cb (ea_cons (ev_op (ev_op (ev_op (ev_hand rfl c3 (v := .int m) rfl) ev_c (rv_I (Or.inr ⟨by decide, by decide⟩))) (ev_var rfl) rv_I0) ev_c rv_I0) ea_nil) (rc_int fun H1 Q q => .inl ⟨_, rfl, q⟩)) ev_c (rv_I (by decide)))
        (ev_var rfl) ev_c (by show 3 < 5; decide) rfl fun H4 c4 e4 => ?_
      have d4 := e4 _ _ cl (e3 _ _ cl d2)
      have x4 : Exl l H H4 := (((Exl.of e1).trans (Exl.of e2)).trans e3).trans e4
      revert c4
      generalize (m * 48271 + ns[j] + 31).fmod 2147483647 = m2
      intro c4
      refine s_if (b := decide ((10 : Int) ^ (18 : Int).toNat ≤ ns[j])) (et_test (ev_op (ev_var rfl) (ev_op ev_c ev_c (rv_I ⟨by decide, by decide, by decide⟩)) rv_I0)) (fun _ H5 e5 => ?_) (fun _ H5 e5 => ?_)
      · refine s_setX (j := 2) (v := .int ns[j]) (e5 _ _ c4) (ev_var rfl) (ev_var rfl) ev_c (by show 2 < 5; decide) rfl fun H6 c6 e6 => ?_
        exact ⟨⟨_, _, _, rfl⟩, (x4.trans (Exl.of e5)).trans e6, c, ns, _, _, _, _, c6, e6 _ _ cl (e5 _ _ d4), by omega, hl⟩
      · exact ⟨⟨_, _, _, rfl⟩, x4.trans (Exl.of e5), c, ns, _, _, _, _, e5 _ _ c4, e5 _ _ d4, by omega, hl⟩
  case rest =>
    rintro σ H1 ⟨⟨a, b, d, rfl⟩, x1, c, ns, i, g, m, t, h1, h2, hi, hl⟩
    have cl : c ≠ l := fun e => by
      rw [e, h1] at h2
      cases ns <;> simp at h2
    refine q_if (b := decide (0 < g)) (et_test (ev_op (ev_hand rfl h1 (v := .int g) rfl) ev_c rv_I0)) (fun _ H2 e2 => ?_) (fun _ H2 e2 => ?_)
    · have c2 := e2 _ _ h1
      refine q_asg (v := .int (g.fmod n)) (ev_op (ev_cb (ea_cons (ev_hand rfl c2 (v := .int g) rfl) ea_nil) (rc_int fun H1 Q q => .inl ⟨_, rfl, q⟩)) (ev_var rfl) (rv_I (by omega))) fun H3 e3 => ?_
      have c3 := e3 _ _ c2
      refine q_setX (j := 2) (v := .int (g.fdiv n)) c3 (ev_op (ev_hand rfl c3 (v := .int g) rfl) (ev_var rfl) (rv_I ⟨by omega, by omega⟩)) (ev_var rfl) ev_c (by show 2 < 5; decide) rfl fun H4 c4 e4 => ?_
      refine s_ret (ev_var rfl) fun H5 e5 => ?_
      obtain ⟨f1, f2⟩ := fm_nn (a := g) (b := n) (by omega)
      exact k _ H5 f1 f2 ((((x1.trans (Exl.of e2)).trans (Exl.of e3)).trans e4).trans (Exl.of e5)) ⟨c, ns, i, _, _, _, e5 _ _ c4, e5 _ _ (e4 _ _ cl (e3 _ _ (e2 _ _ h2))), hi, hl⟩
    · have c2 := e2 _ _ h1
      show tSeq _ _ _ _ _
      refine q_setX (j := 4) (v := .int (t + 1)) c2 (ev_op (ev_hand rfl c2 (v := .int t) rfl) ev_c rv_I0) (ev_var rfl) ev_c (by show 4 < 5; decide) rfl fun H3 c3 e3 => ?_
      have d3 := e3 _ _ cl (e2 _ _ h2)
      have x3 : Exl l H H3 := (x1.trans (Exl.of e2)).trans e3
      refine q_asg (v := .int (((m + 6151 * (t + 1)) * 40692).fmod 2147483399)) (ev_op (ev_cb (ea_cons (ev_op (ev_cb (ea_cons (ev_op (ev_hand rfl c3 (v := .int m) rfl) (ev_op ev_c (ev_hand rfl c3 (v := .int (t + 1)) rfl) (rv_I (Or.inl ⟨by decide, by decide⟩))) rv_I0) ea_nil) (rc_int fun H1 Q q => .inl ⟨_, rfl, q⟩)) ev_c
        (rv_I (Or.inr ⟨by decide, by decide⟩))) ea_nil) (rc_int fun H1 Q q => .inl ⟨_, rfl, q⟩)) ev_c (rv_I (by decide))) fun H4 e4 => ?_
      obtain ⟨p1, p2⟩ := fm_nn (a := (m + 6151 * (t + 1)) * 40692) (b := 2147483399) (by decide)
      revert p1 p2
      generalize ((m + 6151 * (t + 1)) * 40692).fmod 2147483399 = r1
      intro p1 p2
      refine q_asg (v := .int ((r1 * (r1.fdiv 1223 + 52027)).fmod 2147483629)) (ev_op (ev_cb (ea_cons (ev_op (ev_var rfl) (ev_op (ev_op (ev_var rfl) ev_c (rv_I ⟨by decide, by decide⟩)) ev_c rv_I0) (rv_I (Or.inl ⟨by omega, by omega⟩))) ea_nil) (rc_int fun H1 Q q => .inl ⟨_, rfl, q⟩)) ev_c (rv_I (by decide))) fun H5 e5 => ?_
      obtain ⟨p3, p4⟩ := fm_nn (a := r1 * (r1.fdiv 1223 + 52027)) (b := 2147483629) (by decide)
      revert p3 p4
      generalize (r1 * (r1.fdiv 1223 + 52027)).fmod 2147483629 = r2
      intro p3 p4
      refine q_asg (v := .int ((r2 * (r2.fdiv 2671 + 69621)).fmod 2147483647)) (ev_op (ev_cb (ea_cons (ev_op (ev_var rfl) (ev_op (ev_op (ev_var rfl) ev_c (rv_I ⟨by decide, by decide⟩)) ev_c rv_I0) (rv_I (Or.inl ⟨by omega, by omega⟩))) ea_nil) (rc_int fun H1 Q q => .inl ⟨_, rfl, q⟩)) ev_c (rv_I (by decide))) fun H6 e6 => ?_
      generalize (r2 * (r2.fdiv 2671 + 69621)).fmod 2147483647 = r3
      refine s_ret (v := .int ((r3.fdiv 32).fmod n)) (ev_op (ev_cb (ea_cons (ev_op (ev_var rfl) ev_c (rv_I ⟨by decide, by decide⟩)) ea_nil) (rc_int fun H1 Q q => .inl ⟨_, rfl, q⟩)) (ev_var rfl) (rv_I (by omega))) fun H7 e7 => ?_
      obtain ⟨f1, f2⟩ := fm_nn (a := r3.fdiv 32) (b := n) (by omega)
      have ex := ((e4.trans e5).trans e6).trans e7
      exact k _ H7 f1 f2 (x3.trans (Exl.of ex)) ⟨c, ns, i, _, _, _, ex _ _ c3, ex _ _ d3, hi, hl⟩
theorem scS : FnScope ["hand", "things"] ["hand", "things"] (defScope (top 33)) := ⟨rfl, rfl, rfl, by decide +kernel, rfl, by decide +kernel, by decide +kernel⟩
structure Fs (P : Program) (w : World) (K : PySem.W.Frag) (mg : Str → Option Value) (base : Heap) : Prop extends Fr mg where
  h_law_draw : Has P w K mg base CX0 "_law_draw" 1 ["hand", "many"] spDraw
theorem ok_some (F : FnT K "_law_some" (top 33) f fd) (T : Fs P w K mg base) : FnOk P w K mg base CX0 2 f fd ["hand", "things"] spSome := by
  have sc := scS
  refine F.ok scS (fun vs H Q E h => ?_) (fun cdv A outer s H vs Q E hr h => ?_)
  · obtain ⟨l, p, xs, rfl, _⟩ := h
    rfl
  refine ⟨_, PSs.nox (pss_one (ps_ret (pe_ix ix_list (pv 1) (pe_callH T.h_law_draw hr pass0 (pa_cons (pv 0) (pa_cons (pe_callB call_len (by rfl) T.len (by decide +kernel) (pa_cons (pv 1) pa_nil)) pa_nil))) (fun _ _ => rfl)))), ?_⟩
  obtain ⟨l, p, xs, rfl, pl, hp, ne, lx, hh, k⟩ := h
  have lp : 0 < xs.length := List.length_pos_iff.mpr ne
  refine ⟨_, rfl, _, rfl, _, rfl, _, xs.length, rfl, .inl ⟨_, sq_of hp, rfl⟩, l, (xs.length : Nat), rfl, by omega, by omega, hh, fun f H' f0 f1 ex hh' => ?_⟩
  obtain ⟨j, rfl⟩ : ∃ j : Nat, f = (j : Int) := ⟨f.toNat, by omega⟩
  have hj : j < xs.length := by omega
  have e : xs[j]? = some xs[j] := by simp [hj]
  exact ⟨p, xs, j, xs[j], rfl, rfl, sq_of (ex _ _ pl hp), atI_nat e, k _ H' (List.getElem_mem hj) ex hh'⟩
end
end K00
set_option maxHeartbeats 8000000
/-! The errors: each __init__, made, asked, read, raised. -/
namespace K00
open PySem PySem.Spec PyProof.Rows L2 Evl LL
/-- self.f = v, of an error that is being made -/
def spI1 (K : PySem.W.Frag) (f : Str) : Sp := fun vs H Q _ => ∃ (a C kind : Addr) (v : V), vs = [.ref a, v] ∧ ErrC K kind C ∧ PySem.W.findIn K (.ref C) f = some none ∧ H a = some (exo a C none) ∧
  ∀ d, H d = none → d ≠ a → Q .non (upd (upd H d (exd d [(f, v)])) a (exo a C (some d)))
def spI2 (K : PySem.W.Frag) : Sp := fun vs H Q _ => ∃ (a C kind : Addr) (v u : V), vs = [.ref a, v, u] ∧ ErrC K kind C ∧ PySem.W.findIn K (.ref C) "family" = some none ∧ PySem.W.findIn K (.ref C) "use" = some none ∧ H a = some (exo a C none) ∧
  ∀ d, H d = none → d ≠ a → Q .non (upd (upd (upd H d (exd d [("family", v)])) a (exo a C (some d))) d (exd d [("use", u), ("family", v)]))
def spI0 : Sp := fun vs H Q _ => ∃ a : Addr, vs = [.ref a] ∧ Q .non H
section
variable {P : Program} {w : World} {K : PySem.W.Frag} {mg : Str → Option Value} {base : Heap} {f : Addr} {fd : FuncData}
theorem init1 (x : Str) {f : Str} {vs : List V} {H : Hp} {Q : VK} {E : XK} (h : spI1 K f vs H Q E) : tOst K f (tVar 0) (tVar 1) { nx := fun _ H' => Q .non H', rt := Q } (start ["self", x] vs) H := by
  obtain ⟨a, C, kind, v, rfl, T, no, ha, k⟩ := h
  exact ⟨_, rfl, _, rfl, a, C, rfl, T.oex, no, .inl ⟨ha, fun d hd ne => k d hd ne⟩⟩
theorem init2 {vs : List V} {H : Hp} {Q : VK} {E : XK} (h : spI2 K vs H Q E) : tSeq (tOst K "family" (tVar 0) (tVar 1)) (tOst K "use" (tVar 0) (tVar 2)) { nx := fun _ H' => Q .non H', rt := Q } (start ["self", "family", "use"] vs) H := by
  obtain ⟨a, C, kind, v, u, rfl, T, n1, n2, ha, k⟩ := h
  refine ⟨_, rfl, _, rfl, a, C, rfl, T.oex, n1, .inl ⟨ha, fun d hd ne => ?_⟩⟩
  refine ⟨_, rfl, _, rfl, a, C, rfl, T.oex, n2, .inr ⟨d, _, upd_same, by rw [upd_ne ne]; exact upd_same, (by show 1 ≤ 900; decide), k d hd ne⟩⟩
theorem init0 {vs : List V} {H : Hp} {Q : VK} {E : XK} (h : spI0 vs H Q E) : tNext { nx := fun _ H' => Q .non H', rt := Q } (start ["self"] vs) H := by
  obtain ⟨a, rfl, k⟩ := h
  exact k
theorem scBadBook : FnScope ["self", "part"] ["self", "part"] (defScope (inClass (top 2) 0)) := ⟨rfl, rfl, rfl, by decide +kernel, rfl, by decide +kernel, by decide +kernel⟩
theorem oiBadBook (F : FunD K "__init__" "BadBook.__init__" (defArgs (inClass (top 2) 0)) (defBody (inClass (top 2) 0)) (defScope (inClass (top 2) 0)) [] [] f fd) : FnOk P w K mg base CX0 1 f fd ["self", "part"] (spI1 K "part") :=
  F.ok scBadBook (fun _ _ _ _ ⟨_, _, _, _, e, _⟩ => by rw [e]; rfl) fun cdv A outer s H vs Q E hr h => ⟨_, PSs.nox (pss_one (ps_ost (pv 0) (pv 1))), init1 _ h⟩
theorem scBadTable : FnScope ["self", "part"] ["self", "part"] (defScope (inClass (top 3) 0)) := ⟨rfl, rfl, rfl, by decide +kernel, rfl, by decide +kernel, by decide +kernel⟩
theorem oiBadTable (F : FunD K "__init__" "BadTable.__init__" (defArgs (inClass (top 3) 0)) (defBody (inClass (top 3) 0)) (defScope (inClass (top 3) 0)) [] [] f fd) : FnOk P w K mg base CX0 1 f fd ["self", "part"] (spI1 K "part") :=
  F.ok scBadTable (fun _ _ _ _ ⟨_, _, _, _, e, _⟩ => by rw [e]; rfl) fun cdv A outer s H vs Q E hr h => ⟨_, PSs.nox (pss_one (ps_ost (pv 0) (pv 1))), init1 _ h⟩
theorem scBadProgram : FnScope ["self", "part"] ["self", "part"] (defScope (inClass (top 4) 0)) := ⟨rfl, rfl, rfl, by decide +kernel, rfl, by decide +kernel, by decide +kernel⟩
theorem oiBadProgram (F : FunD K "__init__" "BadProgram.__init__" (defArgs (inClass (top 4) 0)) (defBody (inClass (top 4) 0)) (defScope (inClass (top 4) 0)) [] [] f fd) : FnOk P w K mg base CX0 1 f fd ["self", "part"] (spI1 K "part") :=
  F.ok scBadProgram (fun _ _ _ _ ⟨_, _, _, _, e, _⟩ => by rw [e]; rfl) fun cdv A outer s H vs Q E hr h => ⟨_, PSs.nox (pss_one (ps_ost (pv 0) (pv 1))), init1 _ h⟩
theorem scBadText : FnScope ["self", "place"] ["self", "place"] (defScope (inClass (top 5) 0)) := ⟨rfl, rfl, rfl, by decide +kernel, rfl, by decide +kernel, by decide +kernel⟩
theorem oiBadText (F : FunD K "__init__" "BadText.__init__" (defArgs (inClass (top 5) 0)) (defBody (inClass (top 5) 0)) (defScope (inClass (top 5) 0)) [] [] f fd) : FnOk P w K mg base CX0 1 f fd ["self", "place"] (spI1 K "place") :=
  F.ok scBadText (fun _ _ _ _ ⟨_, _, _, _, e, _⟩ => by rw [e]; rfl) fun cdv A outer s H vs Q E hr h => ⟨_, PSs.nox (pss_one (ps_ost (pv 0) (pv 1))), init1 _ h⟩
theorem scTooMany : FnScope ["self", "most"] ["self", "most"] (defScope (inClass (top 6) 0)) := ⟨rfl, rfl, rfl, by decide +kernel, rfl, by decide +kernel, by decide +kernel⟩
theorem oiTooMany (F : FunD K "__init__" "TooMany.__init__" (defArgs (inClass (top 6) 0)) (defBody (inClass (top 6) 0)) (defScope (inClass (top 6) 0)) [] [] f fd) : FnOk P w K mg base CX0 1 f fd ["self", "most"] (spI1 K "most") :=
  F.ok scTooMany (fun _ _ _ _ ⟨_, _, _, _, e, _⟩ => by rw [e]; rfl) fun cdv A outer s H vs Q E hr h => ⟨_, PSs.nox (pss_one (ps_ost (pv 0) (pv 1))), init1 _ h⟩
theorem scNoName : FnScope ["self", "name"] ["self", "name"] (defScope (inClass (top 10) 0)) := ⟨rfl, rfl, rfl, by decide +kernel, rfl, by decide +kernel, by decide +kernel⟩
theorem oiNoName (F : FunD K "__init__" "NoName.__init__" (defArgs (inClass (top 10) 0)) (defBody (inClass (top 10) 0)) (defScope (inClass (top 10) 0)) [] [] f fd) : FnOk P w K mg base CX0 1 f fd ["self", "name"] (spI1 K "name") :=
  F.ok scNoName (fun _ _ _ _ ⟨_, _, _, _, e, _⟩ => by rw [e]; rfl) fun cdv A outer s H vs Q E hr h => ⟨_, PSs.nox (pss_one (ps_ost (pv 0) (pv 1))), init1 _ h⟩
theorem scKept : FnScope ["self", "name"] ["self", "name"] (defScope (inClass (top 11) 0)) := ⟨rfl, rfl, rfl, by decide +kernel, rfl, by decide +kernel, by decide +kernel⟩
theorem oiKept (F : FunD K "__init__" "Kept.__init__" (defArgs (inClass (top 11) 0)) (defBody (inClass (top 11) 0)) (defScope (inClass (top 11) 0)) [] [] f fd) : FnOk P w K mg base CX0 1 f fd ["self", "name"] (spI1 K "name") :=
  F.ok scKept (fun _ _ _ _ ⟨_, _, _, _, e, _⟩ => by rw [e]; rfl) fun cdv A outer s H vs Q E hr h => ⟨_, PSs.nox (pss_one (ps_ost (pv 0) (pv 1))), init1 _ h⟩
theorem scNeedsItself : FnScope ["self", "family", "use"] ["self", "family", "use"] (defScope (inClass (top 7) 0)) := ⟨rfl, rfl, rfl, by decide +kernel, rfl, by decide +kernel, by decide +kernel⟩
theorem oiNeedsItself (F : FunD K "__init__" "NeedsItself.__init__" (defArgs (inClass (top 7) 0)) (defBody (inClass (top 7) 0)) (defScope (inClass (top 7) 0)) [] [] f fd) : FnOk P w K mg base CX0 1 f fd ["self", "family", "use"] (spI2 K) :=
  F.ok scNeedsItself (fun _ _ _ _ ⟨_, _, _, _, _, e, _⟩ => by rw [e]; rfl) fun cdv A outer s H vs Q E hr h => ⟨_, PSs.nox (pss_cons (ps_ost (pv 0) (pv 1)) (pss_one (ps_ost (pv 0) (pv 2)))), init2 h⟩
theorem scUnclear : FnScope ["self", "family", "use"] ["self", "family", "use"] (defScope (inClass (top 8) 0)) := ⟨rfl, rfl, rfl, by decide +kernel, rfl, by decide +kernel, by decide +kernel⟩
theorem oiUnclear (F : FunD K "__init__" "Unclear.__init__" (defArgs (inClass (top 8) 0)) (defBody (inClass (top 8) 0)) (defScope (inClass (top 8) 0)) [] [] f fd) : FnOk P w K mg base CX0 1 f fd ["self", "family", "use"] (spI2 K) :=
  F.ok scUnclear (fun _ _ _ _ ⟨_, _, _, _, _, e, _⟩ => by rw [e]; rfl) fun cdv A outer s H vs Q E hr h => ⟨_, PSs.nox (pss_cons (ps_ost (pv 0) (pv 1)) (pss_one (ps_ost (pv 0) (pv 2)))), init2 h⟩
theorem scUnmet : FnScope ["self", "family", "use"] ["self", "family", "use"] (defScope (inClass (top 9) 0)) := ⟨rfl, rfl, rfl, by decide +kernel, rfl, by decide +kernel, by decide +kernel⟩
theorem oiUnmet (F : FunD K "__init__" "Unmet.__init__" (defArgs (inClass (top 9) 0)) (defBody (inClass (top 9) 0)) (defScope (inClass (top 9) 0)) [] [] f fd) : FnOk P w K mg base CX0 1 f fd ["self", "family", "use"] (spI2 K) :=
  F.ok scUnmet (fun _ _ _ _ ⟨_, _, _, _, _, e, _⟩ => by rw [e]; rfl) fun cdv A outer s H vs Q E hr h => ⟨_, PSs.nox (pss_cons (ps_ost (pv 0) (pv 1)) (pss_one (ps_ost (pv 0) (pv 2)))), init2 h⟩
theorem scNoSorts : FnScope ["self"] ["self"] (defScope (inClass (top 12) 0)) := ⟨rfl, rfl, rfl, by decide +kernel, rfl, by decide +kernel, by decide +kernel⟩
theorem oiNoSorts (F : FunD K "__init__" "NoSorts.__init__" (defArgs (inClass (top 12) 0)) (defBody (inClass (top 12) 0)) (defScope (inClass (top 12) 0)) [] [] f fd) : FnOk P w K mg base CX0 1 f fd ["self"] spI0 :=
  F.ok scNoSorts (fun _ _ _ _ ⟨_, e, _⟩ => by rw [e]; rfl) fun cdv A outer s H vs Q E hr h => ⟨_, PSs.nox (pss_one ps_pass), init0 h⟩
theorem scNoUse : FnScope ["self"] ["self"] (defScope (inClass (top 13) 0)) := ⟨rfl, rfl, rfl, by decide +kernel, rfl, by decide +kernel, by decide +kernel⟩
theorem oiNoUse (F : FunD K "__init__" "NoUse.__init__" (defArgs (inClass (top 13) 0)) (defBody (inClass (top 13) 0)) (defScope (inClass (top 13) 0)) [] [] f fd) : FnOk P w K mg base CX0 1 f fd ["self"] spI0 :=
  F.ok scNoUse (fun _ _ _ _ ⟨_, e, _⟩ => by rw [e]; rfl) fun cdv A outer s H vs Q E hr h => ⟨_, PSs.nox (pss_one ps_pass), init0 h⟩
theorem scNoFacts : FnScope ["self"] ["self"] (defScope (inClass (top 14) 0)) := ⟨rfl, rfl, rfl, by decide +kernel, rfl, by decide +kernel, by decide +kernel⟩
theorem oiNoFacts (F : FunD K "__init__" "NoFacts.__init__" (defArgs (inClass (top 14) 0)) (defBody (inClass (top 14) 0)) (defScope (inClass (top 14) 0)) [] [] f fd) : FnOk P w K mg base CX0 1 f fd ["self"] spI0 :=
  F.ok scNoFacts (fun _ _ _ _ ⟨_, e, _⟩ => by rw [e]; rfl) fun cdv A outer s H vs Q E hr h => ⟨_, PSs.nox (pss_one ps_pass), init0 h⟩
theorem scNoRow : FnScope ["self"] ["self"] (defScope (inClass (top 15) 0)) := ⟨rfl, rfl, rfl, by decide +kernel, rfl, by decide +kernel, by decide +kernel⟩
theorem oiNoRow (F : FunD K "__init__" "NoRow.__init__" (defArgs (inClass (top 15) 0)) (defBody (inClass (top 15) 0)) (defScope (inClass (top 15) 0)) [] [] f fd) : FnOk P w K mg base CX0 1 f fd ["self"] spI0 :=
  F.ok scNoRow (fun _ _ _ _ ⟨_, e, _⟩ => by rw [e]; rfl) fun cdv A outer s H vs Q E hr h => ⟨_, PSs.nox (pss_one ps_pass), init0 h⟩
theorem scNoLot : FnScope ["self"] ["self"] (defScope (inClass (top 16) 0)) := ⟨rfl, rfl, rfl, by decide +kernel, rfl, by decide +kernel, by decide +kernel⟩
theorem oiNoLot (F : FunD K "__init__" "NoLot.__init__" (defArgs (inClass (top 16) 0)) (defBody (inClass (top 16) 0)) (defScope (inClass (top 16) 0)) [] [] f fd) : FnOk P w K mg base CX0 1 f fd ["self"] spI0 :=
  F.ok scNoLot (fun _ _ _ _ ⟨_, e, _⟩ => by rw [e]; rfl) fun cdv A outer s H vs Q E hr h => ⟨_, PSs.nox (pss_one ps_pass), init0 h⟩
theorem scNoWish : FnScope ["self"] ["self"] (defScope (inClass (top 17) 0)) := ⟨rfl, rfl, rfl, by decide +kernel, rfl, by decide +kernel, by decide +kernel⟩
theorem oiNoWish (F : FunD K "__init__" "NoWish.__init__" (defArgs (inClass (top 17) 0)) (defBody (inClass (top 17) 0)) (defScope (inClass (top 17) 0)) [] [] f fd) : FnOk P w K mg base CX0 1 f fd ["self"] spI0 :=
  F.ok scNoWish (fun _ _ _ _ ⟨_, e, _⟩ => by rw [e]; rfl) fun cdv A outer s H vs Q E hr h => ⟨_, PSs.nox (pss_one ps_pass), init0 h⟩
theorem scNoTree : FnScope ["self"] ["self"] (defScope (inClass (top 18) 0)) := ⟨rfl, rfl, rfl, by decide +kernel, rfl, by decide +kernel, by decide +kernel⟩
theorem oiNoTree (F : FunD K "__init__" "NoTree.__init__" (defArgs (inClass (top 18) 0)) (defBody (inClass (top 18) 0)) (defScope (inClass (top 18) 0)) [] [] f fd) : FnOk P w K mg base CX0 1 f fd ["self"] spI0 :=
  F.ok scNoTree (fun _ _ _ _ ⟨_, e, _⟩ => by rw [e]; rfl) fun cdv A outer s H vs Q E hr h => ⟨_, PSs.nox (pss_one ps_pass), init0 h⟩
theorem scNoFamily : FnScope ["self"] ["self"] (defScope (inClass (top 19) 0)) := ⟨rfl, rfl, rfl, by decide +kernel, rfl, by decide +kernel, by decide +kernel⟩
theorem oiNoFamily (F : FunD K "__init__" "NoFamily.__init__" (defArgs (inClass (top 19) 0)) (defBody (inClass (top 19) 0)) (defScope (inClass (top 19) 0)) [] [] f fd) : FnOk P w K mg base CX0 1 f fd ["self"] spI0 :=
  F.ok scNoFamily (fun _ _ _ _ ⟨_, e, _⟩ => by rw [e]; rfl) fun cdv A outer s H vs Q E hr h => ⟨_, PSs.nox (pss_one ps_pass), init0 h⟩
theorem scNoMany : FnScope ["self"] ["self"] (defScope (inClass (top 20) 0)) := ⟨rfl, rfl, rfl, by decide +kernel, rfl, by decide +kernel, by decide +kernel⟩
theorem oiNoMany (F : FunD K "__init__" "NoMany.__init__" (defArgs (inClass (top 20) 0)) (defBody (inClass (top 20) 0)) (defScope (inClass (top 20) 0)) [] [] f fd) : FnOk P w K mg base CX0 1 f fd ["self"] spI0 :=
  F.ok scNoMany (fun _ _ _ _ ⟨_, e, _⟩ => by rw [e]; rfl) fun cdv A outer s H vs Q E hr h => ⟨_, PSs.nox (pss_one ps_pass), init0 h⟩
theorem scNoTerm : FnScope ["self"] ["self"] (defScope (inClass (top 21) 0)) := ⟨rfl, rfl, rfl, by decide +kernel, rfl, by decide +kernel, by decide +kernel⟩
theorem oiNoTerm (F : FunD K "__init__" "NoTerm.__init__" (defArgs (inClass (top 21) 0)) (defBody (inClass (top 21) 0)) (defScope (inClass (top 21) 0)) [] [] f fd) : FnOk P w K mg base CX0 1 f fd ["self"] spI0 :=
  F.ok scNoTerm (fun _ _ _ _ ⟨_, e, _⟩ => by rw [e]; rfl) fun cdv A outer s H vs Q E hr h => ⟨_, PSs.nox (pss_one ps_pass), init0 h⟩
theorem scNoStanding : FnScope ["self"] ["self"] (defScope (inClass (top 22) 0)) := ⟨rfl, rfl, rfl, by decide +kernel, rfl, by decide +kernel, by decide +kernel⟩
theorem oiNoStanding (F : FunD K "__init__" "NoStanding.__init__" (defArgs (inClass (top 22) 0)) (defBody (inClass (top 22) 0)) (defScope (inClass (top 22) 0)) [] [] f fd) : FnOk P w K mg base CX0 1 f fd ["self"] spI0 :=
  F.ok scNoStanding (fun _ _ _ _ ⟨_, e, _⟩ => by rw [e]; rfl) fun cdv A outer s H vs Q E hr h => ⟨_, PSs.nox (pss_one ps_pass), init0 h⟩
theorem scNoLine : FnScope ["self"] ["self"] (defScope (inClass (top 23) 0)) := ⟨rfl, rfl, rfl, by decide +kernel, rfl, by decide +kernel, by decide +kernel⟩
theorem oiNoLine (F : FunD K "__init__" "NoLine.__init__" (defArgs (inClass (top 23) 0)) (defBody (inClass (top 23) 0)) (defScope (inClass (top 23) 0)) [] [] f fd) : FnOk P w K mg base CX0 1 f fd ["self"] spI0 :=
  F.ok scNoLine (fun _ _ _ _ ⟨_, e, _⟩ => by rw [e]; rfl) fun cdv A outer s H vs Q E hr h => ⟨_, PSs.nox (pss_one ps_pass), init0 h⟩
theorem scNoText : FnScope ["self"] ["self"] (defScope (inClass (top 24) 0)) := ⟨rfl, rfl, rfl, by decide +kernel, rfl, by decide +kernel, by decide +kernel⟩
theorem oiNoText (F : FunD K "__init__" "NoText.__init__" (defArgs (inClass (top 24) 0)) (defBody (inClass (top 24) 0)) (defScope (inClass (top 24) 0)) [] [] f fd) : FnOk P w K mg base CX0 1 f fd ["self"] spI0 :=
  F.ok scNoText (fun _ _ _ _ ⟨_, e, _⟩ => by rw [e]; rfl) fun cdv A outer s H vs Q E hr h => ⟨_, PSs.nox (pss_one ps_pass), init0 h⟩
theorem scNothingDone : FnScope ["self"] ["self"] (defScope (inClass (top 25) 0)) := ⟨rfl, rfl, rfl, by decide +kernel, rfl, by decide +kernel, by decide +kernel⟩
theorem oiNothingDone (F : FunD K "__init__" "NothingDone.__init__" (defArgs (inClass (top 25) 0)) (defBody (inClass (top 25) 0)) (defScope (inClass (top 25) 0)) [] [] f fd) : FnOk P w K mg base CX0 1 f fd ["self"] spI0 :=
  F.ok scNothingDone (fun _ _ _ _ ⟨_, e, _⟩ => by rw [e]; rfl) fun cdv A outer s H vs Q E hr h => ⟨_, PSs.nox (pss_one ps_pass), init0 h⟩
theorem scNotClear : FnScope ["self"] ["self"] (defScope (inClass (top 26) 0)) := ⟨rfl, rfl, rfl, by decide +kernel, rfl, by decide +kernel, by decide +kernel⟩
theorem oiNotClear (F : FunD K "__init__" "NotClear.__init__" (defArgs (inClass (top 26) 0)) (defBody (inClass (top 26) 0)) (defScope (inClass (top 26) 0)) [] [] f fd) : FnOk P w K mg base CX0 1 f fd ["self"] spI0 :=
  F.ok scNotClear (fun _ _ _ _ ⟨_, e, _⟩ => by rw [e]; rfl) fun cdv A outer s H vs Q E hr h => ⟨_, PSs.nox (pss_one ps_pass), init0 h⟩
theorem scNotRooted : FnScope ["self"] ["self"] (defScope (inClass (top 27) 0)) := ⟨rfl, rfl, rfl, by decide +kernel, rfl, by decide +kernel, by decide +kernel⟩
theorem oiNotRooted (F : FunD K "__init__" "NotRooted.__init__" (defArgs (inClass (top 27) 0)) (defBody (inClass (top 27) 0)) (defScope (inClass (top 27) 0)) [] [] f fd) : FnOk P w K mg base CX0 1 f fd ["self"] spI0 :=
  F.ok scNotRooted (fun _ _ _ _ ⟨_, e, _⟩ => by rw [e]; rfl) fun cdv A outer s H vs Q E hr h => ⟨_, PSs.nox (pss_one ps_pass), init0 h⟩
theorem scOtherPlaces : FnScope ["self"] ["self"] (defScope (inClass (top 28) 0)) := ⟨rfl, rfl, rfl, by decide +kernel, rfl, by decide +kernel, by decide +kernel⟩
theorem oiOtherPlaces (F : FunD K "__init__" "OtherPlaces.__init__" (defArgs (inClass (top 28) 0)) (defBody (inClass (top 28) 0)) (defScope (inClass (top 28) 0)) [] [] f fd) : FnOk P w K mg base CX0 1 f fd ["self"] spI0 :=
  F.ok scOtherPlaces (fun _ _ _ _ ⟨_, e, _⟩ => by rw [e]; rfl) fun cdv A outer s H vs Q E hr h => ⟨_, PSs.nox (pss_one ps_pass), init0 h⟩
theorem scTooGreat : FnScope ["self"] ["self"] (defScope (inClass (top 29) 0)) := ⟨rfl, rfl, rfl, by decide +kernel, rfl, by decide +kernel, by decide +kernel⟩
theorem oiTooGreat (F : FunD K "__init__" "TooGreat.__init__" (defArgs (inClass (top 29) 0)) (defBody (inClass (top 29) 0)) (defScope (inClass (top 29) 0)) [] [] f fd) : FnOk P w K mg base CX0 1 f fd ["self"] spI0 :=
  F.ok scTooGreat (fun _ _ _ _ ⟨_, e, _⟩ => by rw [e]; rfl) fun cdv A outer s H vs Q E hr h => ⟨_, PSs.nox (pss_one ps_pass), init0 h⟩
end
/-! ### the classes by name -/
/-- the class of the name x, made by its own __init__ -/
def Mk (P : Program) (w : World) (K : PySem.W.Frag) (mg : Str → Option Value) (base : Heap) (x : Str) (ps : List Str) (sp : Sp) : Prop :=
  ∃ fI fd, mg x = some (.ref (He.ga K x)) ∧ ErrC K (He.ga K "KindError") (He.ga K x) ∧ PySem.W.findIn K (.ref (He.ga K x)) "__init__" = some (some (.ref fI)) ∧ PySem.W.typeIn K (.ref fI) = some (.type "function") ∧ Binds K fd ps [] ∧ FnOk P w K mg base CX0 1 fI fd ps sp
section
variable {X : Cx} {x : Str} {ps : List Str} {sp : Sp} {p pos : Pos} {e : Expr} {es : List Expr} {ta : TA} {k : Nat}
theorem pe_mk (h : Mk X.prog X.w X.K X.mg X.base x ps sp) (hr : Room k X.A) (ha : PA X (e :: es) ta) (hk : 2 ≤ k := by decide) (hl : ps.length ≤ 1000 := by decide) (hg : Gl X x := by rfl) (hdb : (x == ("__debug__" : Str)) = false := by decide)
    (he : starEach (e :: es) X.env = (false, eval e X.env) :: starEach es X.env := by rfl) (hpl : (backTo pos (starEach es X.env)).any (·.1) = false := by rfl) : PE X (.Call (.Name x p) (e :: es) [] pos) (tOex (He.ga X.K x) sp ta) := by
  obtain ⟨fI, fd, hm, T, iC, tI, b, F⟩ := h
  exact pe_oex T iC tI F (hr.mono hk) b pass0 hl hg hm ha hdb he hpl
theorem pe_mk0 (h : Mk X.prog X.w X.K X.mg X.base x ps sp) (hr : Room k X.A) (hk : 2 ≤ k := by decide) (hl : ps.length ≤ 1000 := by decide) (hg : Gl X x := by rfl) (hdb : (x == ("__debug__" : Str)) = false := by decide) : PE X (.Call (.Name x p) [] [] pos) (tOex (He.ga X.K x) sp tNil) := by
  obtain ⟨fI, fd, hm, T, iC, tI, b, F⟩ := h
  exact pe_oex0 T iC tI F (hr.mono hk) b pass0 hl hg hm hdb
theorem pmk_mk (h : Mk X.prog X.w X.K X.mg X.base x ps sp) (hr : Room k X.A) (ha : PA X (e :: es) ta) (hk : 2 ≤ k := by decide) (hg : Gl X x := by rfl) (hdb : (x == ("__debug__" : Str)) = false := by decide)
    (he : starEach (e :: es) X.env = (false, eval e X.env) :: starEach es X.env := by rfl) (hpl : (backTo pos (starEach es X.env)).any (·.1) = false := by rfl) : PMk X (.Call (.Name x p) (e :: es) [] pos) (tMkO (He.ga X.K x) sp [] ta) := by
  obtain ⟨fI, fd, hm, T, iC, tI, b, F⟩ := h
  exact pmk_oex T.oex iC tI F (hr.mono hk) b .nil pass0 hg hm ha hdb he hpl
end
structure Ks (P : Program) (w : World) (K : PySem.W.Frag) (mg : Str → Option Value) (base : Heap) : Prop extends Fr mg where
  gKind : mg "KindError" = some (.ref (He.ga K "KindError"))
  eKind : ErrC K (He.ga K "KindError") (He.ga K "KindError")
  xKind : PySem.W.excIn K (He.ga K "KindError") He.veBase "ValueError.__new__" = true
  nd : (((("KindError" : Str) :: errs.map (·.1)).map (He.ga K)).Nodup)
  er : ∀ e ∈ errs, ErrC K (He.ga K "KindError") (He.ga K e.1)
  nat : ∀ p ∈ noat, PySem.W.findIn K (.ref (He.ga K p.1)) p.2 = some none
  kBadBook : Mk P w K mg base "BadBook" ["self", "part"] (spI1 K "part")
  kBadTable : Mk P w K mg base "BadTable" ["self", "part"] (spI1 K "part")
  kBadProgram : Mk P w K mg base "BadProgram" ["self", "part"] (spI1 K "part")
  kBadText : Mk P w K mg base "BadText" ["self", "place"] (spI1 K "place")
  kTooMany : Mk P w K mg base "TooMany" ["self", "most"] (spI1 K "most")
  kNoName : Mk P w K mg base "NoName" ["self", "name"] (spI1 K "name")
  kKept : Mk P w K mg base "Kept" ["self", "name"] (spI1 K "name")
  kNeedsItself : Mk P w K mg base "NeedsItself" ["self", "family", "use"] (spI2 K)
  kUnclear : Mk P w K mg base "Unclear" ["self", "family", "use"] (spI2 K)
  kUnmet : Mk P w K mg base "Unmet" ["self", "family", "use"] (spI2 K)
  kNoSorts : Mk P w K mg base "NoSorts" ["self"] spI0
  kNoUse : Mk P w K mg base "NoUse" ["self"] spI0
  kNoFacts : Mk P w K mg base "NoFacts" ["self"] spI0
  kNoRow : Mk P w K mg base "NoRow" ["self"] spI0
  kNoLot : Mk P w K mg base "NoLot" ["self"] spI0
  kNoWish : Mk P w K mg base "NoWish" ["self"] spI0
  kNoTree : Mk P w K mg base "NoTree" ["self"] spI0
  kNoFamily : Mk P w K mg base "NoFamily" ["self"] spI0
  kNoMany : Mk P w K mg base "NoMany" ["self"] spI0
  kNoTerm : Mk P w K mg base "NoTerm" ["self"] spI0
  kNoStanding : Mk P w K mg base "NoStanding" ["self"] spI0
  kNoLine : Mk P w K mg base "NoLine" ["self"] spI0
  kNoText : Mk P w K mg base "NoText" ["self"] spI0
  kNothingDone : Mk P w K mg base "NothingDone" ["self"] spI0
  kNotClear : Mk P w K mg base "NotClear" ["self"] spI0
  kNotRooted : Mk P w K mg base "NotRooted" ["self"] spI0
  kOtherPlaces : Mk P w K mg base "OtherPlaces" ["self"] spI0
  kTooGreat : Mk P w K mg base "TooGreat" ["self"] spI0
theorem Ks.na {P : Program} {w : World} {K : PySem.W.Frag} {mg : Str → Option Value} {base : Heap} (T : Ks P w K mg base) (x f : Str) (h : (x, f) ∈ noat := by decide) : PySem.W.findIn K (.ref (He.ga K x)) f = some none := T.nat (x, f) h
end K00
set_option maxHeartbeats 16000000
/-! All errors made, asked what they are, their fields read. -/
namespace K00
open PySem PySem.Spec PyProof.Rows L2 Evl LL
theorem Mk.gC {P : Program} {w : World} {K : PySem.W.Frag} {mg : Str → Option Value} {base : Heap} {x : Str} {ps : List Str} {sp : Sp} (h : Mk P w K mg base x ps sp) : mg x = some (.ref (He.ga K x)) := by
  obtain ⟨_, _, h, _⟩ := h
  exact h
theorem Mk.er {P : Program} {w : World} {K : PySem.W.Frag} {mg : Str → Option Value} {base : Heap} {x : Str} {ps : List Str} {sp : Sp} (h : Mk P w K mg base x ps sp) : ErrC K (He.ga K "KindError") (He.ga K x) := by
  obtain ⟨_, _, _, h, _⟩ := h
  exact h
/-! ### values told by what is true of them -/
abbrev VP := V → Hp → Prop
def Mon (R : VP) : Prop := ∀ v H H', Ex H H' → R v H → R v H'
def EvX (te : TE) (σ : L2.St) (H : Hp) (R : VP) : Prop := ∀ H1, Ex H H1 → ∀ Q : VK, (∀ v H2, Ex H1 H2 → R v H2 → Q v H2) → te σ H1 Q
abbrev All2 (Rs : List VP) (vs : List V) (H : Hp) : Prop := Paired (fun (R : VP) v => R v H) Rs vs
def EvXA (ta : TA) (σ : L2.St) (H : Hp) (Rs : List VP) : Prop := ∀ H1, Ex H H1 → ∀ Q : List V → Hp → Prop, (∀ vs H2, Ex H1 H2 → All2 Rs vs H2 → Q vs H2) → ta σ H1 Q
def Mons (Rs : List VP) : Prop := ∀ R ∈ Rs, Mon R
theorem All2.mono {Rs : List VP} (m : Mons Rs) {vs : List V} {H H' : Hp} (e : Ex H H') (h : All2 Rs vs H) : All2 Rs vs H' := by
  induction h with
  | nil => exact .nil
  | cons a b ih => exact .cons (m _ List.mem_cons_self _ _ _ e a) (ih fun R hR => m R (List.mem_cons_of_mem _ hR))
theorem All2.app {Rs Ss : List VP} {H : Hp} : ∀ {vs us : List V}, All2 Rs vs H → All2 Ss us H → All2 (Rs ++ Ss) (vs ++ us) H := by
  intro vs us h k
  induction h with
  | nil => exact k
  | cons a b ih => exact .cons a ih
theorem All2.len {Rs : List VP} {vs : List V} {H : Hp} (h : All2 Rs vs H) : Rs.length = vs.length := Paired.length h
/-- a list of such values -/
def LstOf (Rs : List VP) : VP := fun v H => ∃ p vs, v = .ref p ∧ H p = some (.lst vs) ∧ All2 Rs vs H
theorem LstOf.mon {Rs : List VP} (m : Mons Rs) : Mon (LstOf Rs) := fun v H H' e ⟨p, vs, h1, h2, h3⟩ => ⟨p, vs, h1, e _ _ h2, h3.mono m e⟩
section
variable {σ : L2.St} {H : Hp} {te ta tb : TE} {tr : TA} {R : VP} {Rs Ss : List VP} {D : Ends} {tz : TS} {v : V}
theorem x_of (h : Ev te σ H v) : EvX te σ H (fun u _ => u = v) := fun H1 e Q q => h H1 e Q fun H2 e2 => q v H2 e2 rfl
theorem xa_nil : EvXA tNil σ H [] := fun H1 _ Q q => q [] H1 (Ex.refl H1) .nil
theorem xa_cons (m : Mon R) (h : EvX te σ H R) (hs : EvXA tr σ H Rs) : EvXA (tCons te tr) σ H (R :: Rs) := fun H1 e Q q =>
  h H1 e _ fun v H2 e2 r => hs H2 (e.trans e2) _ fun vs H3 e3 rs => q (v :: vs) H3 (e2.trans e3) (.cons (m _ _ _ e3 r) rs)
theorem x_lst (m : Mons Rs) (hl : Rs.length ≤ 100000) (h : EvXA tr σ H Rs) : EvX (tLst tr) σ H (LstOf Rs) := fun H1 e Q q =>
  h H1 e _ fun vs H2 e2 rs => ⟨sz_of (by rw [← rs.len]; exact hl), fun p hp => q _ _ (e2.trans (Ex.new hp)) ⟨p, vs, rfl, upd_same, rs.mono m (Ex.new hp)⟩⟩
theorem x_cat (m1 : Mons Rs) (m2 : Mons Ss) (hl : Rs.length + Ss.length ≤ 100000) (h1 : EvX ta σ H (LstOf Rs)) (h2 : EvX tb σ H (LstOf Ss)) : EvX (tOp rCat ta tb) σ H (LstOf (Rs ++ Ss)) := fun H1 e Q q =>
  h1 H1 e _ fun x H2 e2 ⟨p, vs, ex, hp, rs⟩ => h2 H2 (e.trans e2) _ fun y H3 e3 ⟨r, us, ey, hr, ss⟩ => by
    have l1 := rs.len
    have l2 := ss.len
    refine ⟨p, r, vs, us, ex, ey, e3 _ _ hp, hr, sz_of (by omega), fun z hz => q _ _ ((e2.trans e3).trans (Ex.new hz)) ⟨z, vs ++ us, rfl, upd_same, (All2.app (rs.mono m1 e3) ss).mono ?_ (Ex.new hz)⟩⟩
    intro R hR
    exact (List.mem_append.mp hR).elim (m1 R) (m2 R)
theorem q_asgX {i : Nat} (h : EvX te σ H R) (k : ∀ v H1, Ex H H1 → R v H1 → tz D (σ.set i (some v)) H1) : tSeq (tAsg te (gName i)) tz D σ H := h H (Ex.refl H) _ k
theorem s_retX (h : EvX te σ H R) (k : ∀ v H1, Ex H H1 → R v H1 → D.rt v H1) : tRet te D σ H := h H (Ex.refl H) _ k
theorem x_var {i : Nat} (m : Mon R) (h : σ[i]? = some (some v)) (r : R v H) : EvX (tVar i) σ H R := fun H1 e Q q => ⟨v, h, q v H1 (Ex.refl H1) (m _ _ _ e r)⟩
end
/-! ### the errors -/
def IsErr (D : Addr) (fs : List (Str × V)) : VP := fun v H => ∃ a, v = .ref a ∧ ErrAt H a D fs
theorem IsErr.mon {D : Addr} {fs : List (Str × V)} : Mon (IsErr D fs) := fun _ _ _ e ⟨a, h1, h2⟩ => ⟨a, h1, h2.mono e⟩
section
variable {K : PySem.W.Frag} {σ : L2.St} {H : Hp} {C kind : Addr} {f : Str} {ta : TA} {v u : V}
theorem fresh_upd {H : Hp} {a d : Addr} {o : HO} (h : upd H a o d = none) : H d = none ∧ d ≠ a := by
  by_cases e : d = a
  · rw [e, upd_same] at h
    cases h
  · rw [upd_ne e] at h
    exact ⟨h, e⟩
theorem x_mk1 (T : ErrC K kind C) (no : PySem.W.findIn K (.ref C) f = some none) (h : EvA ta σ H [v]) : EvX (tOex C (spI1 K f) ta) σ H (IsErr C [(f, v)]) := fun H1 e Q q =>
  h H1 e _ fun H2 e2 a ha => ⟨a, C, kind, v, rfl, T, no, upd_same, fun d hd ne => ⟨rfl, by
    obtain ⟨hd, _⟩ := fresh_upd hd
    refine q _ _ (e2.trans fun b o hb => ?_) ⟨a, rfl, .inr ⟨d, upd_same, ?_⟩⟩
    · rw [upd_ne (ne_of_none hb ha), upd_ne (ne_of_none hb hd), upd_ne (ne_of_none hb ha)]
      exact hb
    · rw [upd_ne ne]
      exact upd_same⟩⟩
theorem x_mk2 (T : ErrC K kind C) (n1 : PySem.W.findIn K (.ref C) "family" = some none) (n2 : PySem.W.findIn K (.ref C) "use" = some none) (h : EvA ta σ H [v, u]) : EvX (tOex C (spI2 K) ta) σ H (IsErr C [("use", u), ("family", v)]) := fun H1 e Q q =>
  h H1 e _ fun H2 e2 a ha => ⟨a, C, kind, v, u, rfl, T, n1, n2, upd_same, fun d hd ne => ⟨rfl, by
    obtain ⟨hd, _⟩ := fresh_upd hd
    refine q _ _ (e2.trans fun b o hb => ?_) ⟨a, rfl, .inr ⟨d, ?_, upd_same⟩⟩
    · rw [upd_ne (ne_of_none hb hd), upd_ne (ne_of_none hb ha), upd_ne (ne_of_none hb hd), upd_ne (ne_of_none hb ha)]
      exact hb
    · rw [upd_ne (Ne.symm ne)]
      exact upd_same⟩⟩
theorem x_mk0 : EvX (tOex C spI0 tNil) σ H (IsErr C []) := fun H1 e Q q a ha => ⟨a, rfl, rfl, q _ _ (Ex.new ha) ⟨a, rfl, .inl ⟨rfl, upd_same⟩⟩⟩
end
theorem mons_nil : Mons [] := fun _ h => nomatch h
theorem mons_cons {R : VP} {Rs : List VP} (h : Mon R) (hs : Mons Rs) : Mons (R :: Rs) := fun S hS => by
  rcases List.mem_cons.mp hS with e | e
  · rw [e]; exact h
  · exact hs S e
/-- what the error of the i-th class of the text keeps of one and two -/
def fsOf (i : Nat) (v u : V) : List (Str × V) := match i with
  | 2 | 3 | 4 => [("part", v)]
  | 5 => [("place", v)]
  | 6 => [("most", v)]
  | 10 | 11 => [("name", v)]
  | 7 | 8 | 9 => [("use", u), ("family", v)]
  | _ => []
def errR (K : PySem.W.Frag) (v u : V) (e : Str × Nat) : VP := IsErr (He.ga K e.1) (fsOf e.2 v u)
theorem errR.mons {K : PySem.W.Frag} {v u : V} {l : List (Str × Nat)} : Mons (l.map (errR K v u)) := fun R hR => by
  obtain ⟨e, _, rfl⟩ := List.mem_map.mp hR
  exact IsErr.mon
def spMade (K : PySem.W.Frag) : Sp := fun vs H Q _ => ∃ v u, vs = [v, u] ∧ ∀ x H', Ex H H' → LstOf (errs.map (errR K v u)) x H' → Q x H'
section
variable {P : Program} {w : World} {K : PySem.W.Frag} {mg : Str → Option Value} {base : Heap} {f : Addr} {fd : FuncData}
theorem scM : FnScope ["one", "two", "found"] ["one", "two"] (defScope (top 35)) := ⟨rfl, rfl, rfl, by decide +kernel, rfl, by decide +kernel, by decide +kernel⟩
theorem ok_made (F : FnT K "_law_made" (top 35) f fd) (T : Ks P w K mg base) : FnOk P w K mg base CX0 3 f fd ["one", "two"] (spMade K) := by
  have sc := scM
  refine F.ok scM (fun vs H Q E h => ?_) (fun cdv A outer s H vs Q E hr h => ?_)
  · obtain ⟨v, u, rfl, _⟩ := h
    rfl
  refine ⟨_, PSs.nox (pss_cons (ps_set (i := 2) sc.nd rfl (Or.inl rfl) (pe_lst (pa_cons (pe_mk T.kBadBook hr (pa_cons (pv 0) pa_nil)) (pa_cons (pe_mk T.kBadTable hr (pa_cons (pv 0) pa_nil)) (pa_cons (pe_mk T.kBadProgram hr (pa_cons (pv 0) pa_nil)) (pa_cons (pe_mk T.kBadText hr (pa_cons (pv 0) pa_nil)) (pa_cons (pe_mk T.kTooMany hr (pa_cons (pv 0) pa_nil)) (pa_cons (pe_mk T.kNoName hr (pa_cons (pv 0) pa_nil)) (pa_cons (pe_mk T.kKept hr (pa_cons (pv 0) pa_nil)) pa_nil)))))))))
      (pss_cons (ps_set (i := 2) sc.nd rfl (Or.inl rfl) (pe_op op_cat (pv 2) (pe_lst (pa_cons (pe_mk T.kNeedsItself hr (pa_cons (pv 0) (pa_cons (pv 1) pa_nil))) (pa_cons (pe_mk T.kUnclear hr (pa_cons (pv 0) (pa_cons (pv 1) pa_nil))) (pa_cons (pe_mk T.kUnmet hr (pa_cons (pv 0) (pa_cons (pv 1) pa_nil))) (pa_cons (pe_mk0 T.kNoSorts hr) (pa_cons (pe_mk0 T.kNoUse hr) (pa_cons (pe_mk0 T.kNoFacts hr) (pa_cons (pe_mk0 T.kNoRow hr) pa_nil))))))))))
      (pss_cons (ps_set (i := 2) sc.nd rfl (Or.inl rfl) (pe_op op_cat (pv 2) (pe_lst (pa_cons (pe_mk0 T.kNoLot hr) (pa_cons (pe_mk0 T.kNoWish hr) (pa_cons (pe_mk0 T.kNoTree hr) (pa_cons (pe_mk0 T.kNoFamily hr) (pa_cons (pe_mk0 T.kNoMany hr) (pa_cons (pe_mk0 T.kNoTerm hr) (pa_cons (pe_mk0 T.kNoStanding hr) (pa_cons (pe_mk0 T.kNoLine hr) (pa_cons (pe_mk0 T.kNoText hr) pa_nil))))))))))))
      (pss_one (ps_ret (pe_op op_cat (pv 2) (pe_lst (pa_cons (pe_mk0 T.kNothingDone hr) (pa_cons (pe_mk0 T.kNotClear hr) (pa_cons (pe_mk0 T.kNotRooted hr) (pa_cons (pe_mk0 T.kOtherPlaces hr) (pa_cons (pe_mk0 T.kTooGreat hr) pa_nil)))))))))))), ?_⟩
  obtain ⟨v, u, rfl, k⟩ := h
  refine q_asgX (x_lst (mons_cons IsErr.mon (mons_cons IsErr.mon (mons_cons IsErr.mon (mons_cons IsErr.mon (mons_cons IsErr.mon (mons_cons IsErr.mon (mons_cons IsErr.mon mons_nil))))))) (by show 7 ≤ 100000; decide) (xa_cons IsErr.mon (x_mk1 T.kBadBook.er (T.na "BadBook" "part") (ea_cons (ev_var rfl) ea_nil)) (xa_cons IsErr.mon (x_mk1 T.kBadTable.er (T.na "BadTable" "part") (ea_cons (ev_var rfl) ea_nil)) (xa_cons IsErr.mon (x_mk1 T.kBadProgram.er (T.na "BadProgram" "part") (ea_cons (ev_var rfl) ea_nil)) (xa_cons IsErr.mon (x_mk1 T.kBadText.er (T.na "BadText" "place") (ea_cons (ev_var rfl) ea_nil)) (xa_cons IsErr.mon (x_mk1 T.kTooMany.er (T.na "TooMany" "most") (ea_cons (ev_var rfl) ea_nil)) (xa_cons IsErr.mon (x_mk1 T.kNoName.er (T.na "NoName" "name") (ea_cons (ev_var rfl) ea_nil)) (xa_cons IsErr.mon (x_mk1 T.kKept.er (T.na "Kept" "name") (ea_cons (ev_var rfl) ea_nil)) xa_nil)))))))) fun x1 H1 e1 r1 => ?_
  refine q_asgX (x_cat (mons_cons IsErr.mon (mons_cons IsErr.mon (mons_cons IsErr.mon (mons_cons IsErr.mon (mons_cons IsErr.mon (mons_cons IsErr.mon (mons_cons IsErr.mon mons_nil))))))) (mons_cons IsErr.mon (mons_cons IsErr.mon (mons_cons IsErr.mon (mons_cons IsErr.mon (mons_cons IsErr.mon (mons_cons IsErr.mon (mons_cons IsErr.mon mons_nil))))))) (by show 14 ≤ 100000; decide) (x_var (LstOf.mon (mons_cons IsErr.mon (mons_cons IsErr.mon (mons_cons IsErr.mon (mons_cons IsErr.mon (mons_cons IsErr.mon (mons_cons IsErr.mon (mons_cons IsErr.mon mons_nil)))))))) rfl r1) (x_lst (mons_cons IsErr.mon (mons_cons IsErr.mon (mons_cons IsErr.mon (mons_cons IsErr.mon (mons_cons IsErr.mon (mons_cons IsErr.mon (mons_cons IsErr.mon mons_nil))))))) (by show 7 ≤ 100000; decide) (xa_cons IsErr.mon (x_mk2 T.kNeedsItself.er (T.na "NeedsItself" "family") (T.na "NeedsItself" "use") (ea_cons (ev_var rfl) (ea_cons (ev_var rfl) ea_nil))) (xa_cons IsErr.mon (x_mk2 T.kUnclear.er (T.na "Unclear" "family") (T.na "Unclear" "use") (ea_cons (ev_var rfl) (ea_cons (ev_var rfl) ea_nil))) (xa_cons IsErr.mon (x_mk2 T.kUnmet.er (T.na "Unmet" "family") (T.na "Unmet" "use") (ea_cons (ev_var rfl) (ea_cons (ev_var rfl) ea_nil))) (xa_cons IsErr.mon x_mk0 (xa_cons IsErr.mon x_mk0 (xa_cons IsErr.mon x_mk0 (xa_cons IsErr.mon x_mk0 xa_nil))))))))) fun x2 H2 e2 r2 => ?_
  refine q_asgX (x_cat (mons_cons IsErr.mon (mons_cons IsErr.mon (mons_cons IsErr.mon (mons_cons IsErr.mon (mons_cons IsErr.mon (mons_cons IsErr.mon (mons_cons IsErr.mon (mons_cons IsErr.mon (mons_cons IsErr.mon (mons_cons IsErr.mon (mons_cons IsErr.mon (mons_cons IsErr.mon (mons_cons IsErr.mon (mons_cons IsErr.mon mons_nil)))))))))))))) (mons_cons IsErr.mon (mons_cons IsErr.mon (mons_cons IsErr.mon (mons_cons IsErr.mon (mons_cons IsErr.mon (mons_cons IsErr.mon (mons_cons IsErr.mon (mons_cons IsErr.mon (mons_cons IsErr.mon mons_nil))))))))) (by show 23 ≤ 100000; decide) (x_var (LstOf.mon (mons_cons IsErr.mon (mons_cons IsErr.mon (mons_cons IsErr.mon (mons_cons IsErr.mon (mons_cons IsErr.mon (mons_cons IsErr.mon (mons_cons IsErr.mon (mons_cons IsErr.mon (mons_cons IsErr.mon (mons_cons IsErr.mon (mons_cons IsErr.mon (mons_cons IsErr.mon (mons_cons IsErr.mon (mons_cons IsErr.mon mons_nil))))))))))))))) rfl r2) (x_lst (mons_cons IsErr.mon (mons_cons IsErr.mon (mons_cons IsErr.mon (mons_cons IsErr.mon (mons_cons IsErr.mon (mons_cons IsErr.mon (mons_cons IsErr.mon (mons_cons IsErr.mon (mons_cons IsErr.mon mons_nil))))))))) (by show 9 ≤ 100000; decide) (xa_cons IsErr.mon x_mk0 (xa_cons IsErr.mon x_mk0 (xa_cons IsErr.mon x_mk0 (xa_cons IsErr.mon x_mk0 (xa_cons IsErr.mon x_mk0 (xa_cons IsErr.mon x_mk0 (xa_cons IsErr.mon x_mk0 (xa_cons IsErr.mon x_mk0 (xa_cons IsErr.mon x_mk0 xa_nil))))))))))) fun x3 H3 e3 r3 => ?_
  refine s_retX (x_cat (mons_cons IsErr.mon (mons_cons IsErr.mon (mons_cons IsErr.mon (mons_cons IsErr.mon (mons_cons IsErr.mon (mons_cons IsErr.mon (mons_cons IsErr.mon (mons_cons IsErr.mon (mons_cons IsErr.mon (mons_cons IsErr.mon (mons_cons IsErr.mon (mons_cons IsErr.mon (mons_cons IsErr.mon (mons_cons IsErr.mon (mons_cons IsErr.mon (mons_cons IsErr.mon (mons_cons IsErr.mon (mons_cons IsErr.mon (mons_cons IsErr.mon (mons_cons IsErr.mon (mons_cons IsErr.mon (mons_cons IsErr.mon (mons_cons IsErr.mon mons_nil))))))))))))))))))))))) (mons_cons IsErr.mon (mons_cons IsErr.mon (mons_cons IsErr.mon (mons_cons IsErr.mon (mons_cons IsErr.mon mons_nil))))) (by show 28 ≤ 100000; decide) (x_var (LstOf.mon (mons_cons IsErr.mon (mons_cons IsErr.mon (mons_cons IsErr.mon (mons_cons IsErr.mon (mons_cons IsErr.mon (mons_cons IsErr.mon (mons_cons IsErr.mon (mons_cons IsErr.mon (mons_cons IsErr.mon (mons_cons IsErr.mon (mons_cons IsErr.mon (mons_cons IsErr.mon (mons_cons IsErr.mon (mons_cons IsErr.mon (mons_cons IsErr.mon (mons_cons IsErr.mon (mons_cons IsErr.mon (mons_cons IsErr.mon (mons_cons IsErr.mon (mons_cons IsErr.mon (mons_cons IsErr.mon (mons_cons IsErr.mon (mons_cons IsErr.mon mons_nil)))))))))))))))))))))))) rfl r3) (x_lst (mons_cons IsErr.mon (mons_cons IsErr.mon (mons_cons IsErr.mon (mons_cons IsErr.mon (mons_cons IsErr.mon mons_nil))))) (by show 5 ≤ 100000; decide) (xa_cons IsErr.mon x_mk0 (xa_cons IsErr.mon x_mk0 (xa_cons IsErr.mon x_mk0 (xa_cons IsErr.mon x_mk0 (xa_cons IsErr.mon x_mk0 xa_nil))))))) fun x4 H4 e4 r4 => ?_
  exact k x4 H4 (((e1.trans e2).trans e3).trans e4) r4
/-- what isinstance tells of an error of the class at D, class by class -/
def kindsOf (K : PySem.W.Frag) (D : Addr) : List V := errs.map fun e => .bl (decide (He.ga K e.1 = D ∨ He.ga K e.1 = He.ga K "KindError"))
def spKinds (K : PySem.W.Frag) : Sp := fun vs H Q _ => ∃ (a D : Addr) (fs : List (Str × V)), vs = [.ref a] ∧ ErrAt H a D fs ∧ ErrC K (He.ga K "KindError") D ∧ ∀ p H', H p = none → Ex H H' → H' p = some (.lst (kindsOf K D)) → Q (.ref p) H'
theorem ev_isX {σ : L2.St} {H : Hp} {a D C kind : Addr} {fs : List (Str × V)} (ha : ErrAt H a D fs) (T : ErrC K kind D) (U : ErrC K kind C) (h0 : σ[0]? = some (some (.ref a)) := by rfl) :
    Ev (tCB (rIsX K) (tCons (tVar 0) (tCons (tC (.ref C)) tNil))) σ H (.bl (decide (C = D ∨ C = kind))) :=
  ev_cb (ea_cons (ev_var h0) (ea_cons ev_c ea_nil)) fun H1 e Q q => ⟨a, D, kind, fs, .ref C, .ref C, _, rfl, ha.mono e, T, .own C, T.kit U, q H1 (Ex.refl H1)⟩
theorem el_cat {σ : L2.St} {H : Hp} {ta tb : TE} {p : Addr} {xs ys : List V} (h1 : Ev ta σ H (.ref p)) (hp : H p = some (.lst xs)) (h2 : EvL tb σ H ys) (hl : xs.length + ys.length ≤ 100000) : EvL (tOp rCat ta tb) σ H (xs ++ ys) := fun H1 e Q q =>
  h1 H1 e _ fun H2 e2 => h2 H2 (e.trans e2) _ fun r H3 hr e3 h3 => ⟨p, r, xs, ys, rfl, rfl, e3 _ _ (e2 _ _ (e _ _ hp)), h3, sz_of hl, fun z hz => q z _ (fresh_back (e2.trans e3) hz) ((e2.trans e3).trans (Ex.new hz)) upd_same⟩
theorem scK : FnScope ["one", "found"] ["one"] (defScope (top 36)) := ⟨rfl, rfl, rfl, by decide +kernel, rfl, by decide +kernel, by decide +kernel⟩
theorem ok_kinds (F : FnT K "_law_kinds" (top 36) f fd) (T : Ks P w K mg base) : FnOk P w K mg base CX0 1 f fd ["one"] (spKinds K) := by
  have sc := scK
  refine F.ok scK (fun vs H Q E h => ?_) (fun cdv A outer s H vs Q E hr h => ?_)
  · obtain ⟨a, D, fs, rfl, _⟩ := h
    rfl
  refine ⟨_, PSs.nox (pss_cons (ps_set (i := 1) sc.nd rfl (Or.inl rfl) (pe_lst (pa_cons (pe_callB call_isX (by rfl) T.isinstance (by decide +kernel) (pa_cons (pv 0) (pa_cons (pe_ref T.kBadBook.gC) pa_nil))) (pa_cons (pe_callB call_isX (by rfl) T.isinstance (by decide +kernel) (pa_cons (pv 0) (pa_cons (pe_ref T.kBadTable.gC) pa_nil))) (pa_cons (pe_callB call_isX (by rfl) T.isinstance (by decide +kernel) (pa_cons (pv 0) (pa_cons (pe_ref T.kBadProgram.gC) pa_nil))) pa_nil)))))
      (pss_cons (ps_set (i := 1) sc.nd rfl (Or.inl rfl) (pe_op op_cat (pv 1) (pe_lst (pa_cons (pe_callB call_isX (by rfl) T.isinstance (by decide +kernel) (pa_cons (pv 0) (pa_cons (pe_ref T.kBadText.gC) pa_nil))) (pa_cons (pe_callB call_isX (by rfl) T.isinstance (by decide +kernel) (pa_cons (pv 0) (pa_cons (pe_ref T.kTooMany.gC) pa_nil))) (pa_cons (pe_callB call_isX (by rfl) T.isinstance (by decide +kernel) (pa_cons (pv 0) (pa_cons (pe_ref T.kNoName.gC) pa_nil))) pa_nil))))))
      (pss_cons (ps_set (i := 1) sc.nd rfl (Or.inl rfl) (pe_op op_cat (pv 1) (pe_lst (pa_cons (pe_callB call_isX (by rfl) T.isinstance (by decide +kernel) (pa_cons (pv 0) (pa_cons (pe_ref T.kKept.gC) pa_nil))) (pa_cons (pe_callB call_isX (by rfl) T.isinstance (by decide +kernel) (pa_cons (pv 0) (pa_cons (pe_ref T.kNeedsItself.gC) pa_nil))) (pa_cons (pe_callB call_isX (by rfl) T.isinstance (by decide +kernel) (pa_cons (pv 0) (pa_cons (pe_ref T.kUnclear.gC) pa_nil))) pa_nil))))))
      (pss_cons (ps_set (i := 1) sc.nd rfl (Or.inl rfl) (pe_op op_cat (pv 1) (pe_lst (pa_cons (pe_callB call_isX (by rfl) T.isinstance (by decide +kernel) (pa_cons (pv 0) (pa_cons (pe_ref T.kUnmet.gC) pa_nil))) (pa_cons (pe_callB call_isX (by rfl) T.isinstance (by decide +kernel) (pa_cons (pv 0) (pa_cons (pe_ref T.kNoSorts.gC) pa_nil))) (pa_cons (pe_callB call_isX (by rfl) T.isinstance (by decide +kernel) (pa_cons (pv 0) (pa_cons (pe_ref T.kNoUse.gC) pa_nil))) pa_nil))))))
      (pss_cons (ps_set (i := 1) sc.nd rfl (Or.inl rfl) (pe_op op_cat (pv 1) (pe_lst (pa_cons (pe_callB call_isX (by rfl) T.isinstance (by decide +kernel) (pa_cons (pv 0) (pa_cons (pe_ref T.kNoFacts.gC) pa_nil))) (pa_cons (pe_callB call_isX (by rfl) T.isinstance (by decide +kernel) (pa_cons (pv 0) (pa_cons (pe_ref T.kNoRow.gC) pa_nil))) (pa_cons (pe_callB call_isX (by rfl) T.isinstance (by decide +kernel) (pa_cons (pv 0) (pa_cons (pe_ref T.kNoLot.gC) pa_nil))) pa_nil))))))
      (pss_cons (ps_set (i := 1) sc.nd rfl (Or.inl rfl) (pe_op op_cat (pv 1) (pe_lst (pa_cons (pe_callB call_isX (by rfl) T.isinstance (by decide +kernel) (pa_cons (pv 0) (pa_cons (pe_ref T.kNoWish.gC) pa_nil))) (pa_cons (pe_callB call_isX (by rfl) T.isinstance (by decide +kernel) (pa_cons (pv 0) (pa_cons (pe_ref T.kNoTree.gC) pa_nil))) (pa_cons (pe_callB call_isX (by rfl) T.isinstance (by decide +kernel) (pa_cons (pv 0) (pa_cons (pe_ref T.kNoFamily.gC) pa_nil))) pa_nil))))))
      (pss_cons (ps_set (i := 1) sc.nd rfl (Or.inl rfl) (pe_op op_cat (pv 1) (pe_lst (pa_cons (pe_callB call_isX (by rfl) T.isinstance (by decide +kernel) (pa_cons (pv 0) (pa_cons (pe_ref T.kNoMany.gC) pa_nil))) (pa_cons (pe_callB call_isX (by rfl) T.isinstance (by decide +kernel) (pa_cons (pv 0) (pa_cons (pe_ref T.kNoTerm.gC) pa_nil))) (pa_cons (pe_callB call_isX (by rfl) T.isinstance (by decide +kernel) (pa_cons (pv 0) (pa_cons (pe_ref T.kNoStanding.gC) pa_nil))) pa_nil))))))
      (pss_cons (ps_set (i := 1) sc.nd rfl (Or.inl rfl) (pe_op op_cat (pv 1) (pe_lst (pa_cons (pe_callB call_isX (by rfl) T.isinstance (by decide +kernel) (pa_cons (pv 0) (pa_cons (pe_ref T.kNoLine.gC) pa_nil))) (pa_cons (pe_callB call_isX (by rfl) T.isinstance (by decide +kernel) (pa_cons (pv 0) (pa_cons (pe_ref T.kNoText.gC) pa_nil))) (pa_cons (pe_callB call_isX (by rfl) T.isinstance (by decide +kernel) (pa_cons (pv 0) (pa_cons (pe_ref T.kNothingDone.gC) pa_nil))) pa_nil))))))
      (pss_cons (ps_set (i := 1) sc.nd rfl (Or.inl rfl) (pe_op op_cat (pv 1) (pe_lst (pa_cons (pe_callB call_isX (by rfl) T.isinstance (by decide +kernel) (pa_cons (pv 0) (pa_cons (pe_ref T.kNotClear.gC) pa_nil))) (pa_cons (pe_callB call_isX (by rfl) T.isinstance (by decide +kernel) (pa_cons (pv 0) (pa_cons (pe_ref T.kNotRooted.gC) pa_nil))) (pa_cons (pe_callB call_isX (by rfl) T.isinstance (by decide +kernel) (pa_cons (pv 0) (pa_cons (pe_ref T.kOtherPlaces.gC) pa_nil))) pa_nil))))))
      (pss_one (ps_ret (pe_op op_cat (pv 1) (pe_lst (pa_cons (pe_callB call_isX (by rfl) T.isinstance (by decide +kernel) (pa_cons (pv 0) (pa_cons (pe_ref T.kTooGreat.gC) pa_nil))) pa_nil)))))))))))))), ?_⟩
  obtain ⟨a, D, fs, rfl, ha, hT, k⟩ := h
  have h0 := ha
  refine q_asgL (el_lst (ea_cons (ev_isX h0 hT T.kBadBook.er) (ea_cons (ev_isX h0 hT T.kBadTable.er) (ea_cons (ev_isX h0 hT T.kBadProgram.er) ea_nil))) (by show 3 ≤ 100000; decide)) fun p1 H1 n1 e1 l1 => ?_
  have h0 := h0.mono e1
  refine q_asgL (el_cat (ev_var rfl) l1 (el_lst (ea_cons (ev_isX h0 hT T.kBadText.er) (ea_cons (ev_isX h0 hT T.kTooMany.er) (ea_cons (ev_isX h0 hT T.kNoName.er) ea_nil))) (by show 3 ≤ 100000; decide)) (by show 6 ≤ 100000; decide)) fun p2 H2 n2 e2 l2 => ?_
  have h0 := h0.mono e2
  refine q_asgL (el_cat (ev_var rfl) l2 (el_lst (ea_cons (ev_isX h0 hT T.kKept.er) (ea_cons (ev_isX h0 hT T.kNeedsItself.er) (ea_cons (ev_isX h0 hT T.kUnclear.er) ea_nil))) (by show 3 ≤ 100000; decide)) (by show 9 ≤ 100000; decide)) fun p3 H3 n3 e3 l3 => ?_
  have h0 := h0.mono e3
  refine q_asgL (el_cat (ev_var rfl) l3 (el_lst (ea_cons (ev_isX h0 hT T.kUnmet.er) (ea_cons (ev_isX h0 hT T.kNoSorts.er) (ea_cons (ev_isX h0 hT T.kNoUse.er) ea_nil))) (by show 3 ≤ 100000; decide)) (by show 12 ≤ 100000; decide)) fun p4 H4 n4 e4 l4 => ?_
  have h0 := h0.mono e4
  refine q_asgL (el_cat (ev_var rfl) l4 (el_lst (ea_cons (ev_isX h0 hT T.kNoFacts.er) (ea_cons (ev_isX h0 hT T.kNoRow.er) (ea_cons (ev_isX h0 hT T.kNoLot.er) ea_nil))) (by show 3 ≤ 100000; decide)) (by show 15 ≤ 100000; decide)) fun p5 H5 n5 e5 l5 => ?_
  have h0 := h0.mono e5
  refine q_asgL (el_cat (ev_var rfl) l5 (el_lst (ea_cons (ev_isX h0 hT T.kNoWish.er) (ea_cons (ev_isX h0 hT T.kNoTree.er) (ea_cons (ev_isX h0 hT T.kNoFamily.er) ea_nil))) (by show 3 ≤ 100000; decide)) (by show 18 ≤ 100000; decide)) fun p6 H6 n6 e6 l6 => ?_
  have h0 := h0.mono e6
  refine q_asgL (el_cat (ev_var rfl) l6 (el_lst (ea_cons (ev_isX h0 hT T.kNoMany.er) (ea_cons (ev_isX h0 hT T.kNoTerm.er) (ea_cons (ev_isX h0 hT T.kNoStanding.er) ea_nil))) (by show 3 ≤ 100000; decide)) (by show 21 ≤ 100000; decide)) fun p7 H7 n7 e7 l7 => ?_
  have h0 := h0.mono e7
  refine q_asgL (el_cat (ev_var rfl) l7 (el_lst (ea_cons (ev_isX h0 hT T.kNoLine.er) (ea_cons (ev_isX h0 hT T.kNoText.er) (ea_cons (ev_isX h0 hT T.kNothingDone.er) ea_nil))) (by show 3 ≤ 100000; decide)) (by show 24 ≤ 100000; decide)) fun p8 H8 n8 e8 l8 => ?_
  have h0 := h0.mono e8
  refine q_asgL (el_cat (ev_var rfl) l8 (el_lst (ea_cons (ev_isX h0 hT T.kNotClear.er) (ea_cons (ev_isX h0 hT T.kNotRooted.er) (ea_cons (ev_isX h0 hT T.kOtherPlaces.er) ea_nil))) (by show 3 ≤ 100000; decide)) (by show 27 ≤ 100000; decide)) fun p9 H9 n9 e9 l9 => ?_
  have h0 := h0.mono e9
  refine s_retL (el_cat (ev_var rfl) l9 (el_lst (ea_cons (ev_isX h0 hT T.kTooGreat.er) ea_nil) (by show 1 ≤ 100000; decide)) (by show 28 ≤ 100000; decide)) fun p10 H10 n10 e10 l10 => ?_
  exact k _ _ (fresh_back ((((((((e1.trans e2).trans e3).trans e4).trans e5).trans e6).trans e7).trans e8).trans e9) n10) (((((((((e1.trans e2).trans e3).trans e4).trans e5).trans e6).trans e7).trans e8).trans e9).trans e10) l10
end
end K00
set_option maxHeartbeats 16000000
/-! The errors' fields; an error raised, caught by its own class, by the base. -/
namespace K00
open PySem PySem.Spec PyProof.Rows L2 Evl LL
section
variable {P : Program} {w : World} {K : PySem.W.Frag} {mg : Str → Option Value} {base : Heap} {f : Addr} {fd : FuncData}
theorem All2.get {Rs : List VP} {vs : List V} {H : Hp} (h : All2 Rs vs H) : ∀ {i : Nat} {R : VP}, Rs[i]? = some R → ∃ v, vs[i]? = some v ∧ R v H := by
  induction h with
  | nil => intro i R e; simp at e
  | cons a b ih =>
    intro i R e
    cases i with
    | zero =>
      simp at e
      subst e
      exact ⟨_, rfl, a⟩
    | succ i =>
      obtain ⟨v, h1, h2⟩ := ih (i := i) (by simpa using e)
      exact ⟨v, by simpa using h1, h2⟩
theorem All2.err {v u : V} {vs : List V} {H : Hp} (h : All2 (errs.map (errR K v u)) vs H) (i : Nat) {x : Str} {j : Nat} (e : errs[i]? = some (x, j)) : ∃ a, vs[i]? = some (.ref a) ∧ ErrAt H a (He.ga K x) (fsOf j v u) := by
  obtain ⟨y, h1, a, h2, h3⟩ := All2.get h (i := i) (R := errR K v u (x, j)) (by rw [List.getElem?_map, e]; rfl)
  subst h2
  exact ⟨a, h1, h3⟩
theorem ev_fx {σ : L2.St} {H : Hp} {te : TE} {a D kind : Addr} {fs : List (Str × V)} {n : Str} {v : V} (h : Ev te σ H (.ref a)) (ha : ErrAt H a D fs) (T : ErrC K kind D) (no : PySem.W.findIn K (.ref D) n = some none) (hl : fs.lookup n = some v) : Ev (tFx K n te) σ H v := fun H1 e Q q =>
  h H1 e _ fun H2 e2 => ⟨a, D, kind, fs, v, rfl, ha.mono (e.trans e2), T, no, hl, q H2 e2⟩
def fieldsOf (v u : V) : List V := [v, v, v, v, v, v, v, v, u, v, u, v, u]
def spFields (K : PySem.W.Frag) : Sp := fun vs H Q _ => ∃ (v u x : V), vs = [x] ∧ LstOf (errs.map (errR K v u)) x H ∧ ∀ p H', H p = none → Ex H H' → H' p = some (.lst (fieldsOf v u)) → Q (.ref p) H'
theorem scF : FnScope ["errors", "found"] ["errors"] (defScope (top 37)) := ⟨rfl, rfl, rfl, by decide +kernel, rfl, by decide +kernel, by decide +kernel⟩
theorem ok_fields (F : FnT K "_law_fields" (top 37) f fd) (T : Ks P w K mg base) : FnOk P w K mg base CX0 1 f fd ["errors"] (spFields K) := by
  have sc := scF
  refine F.ok scF (fun vs H Q E h => ?_) (fun cdv A outer s H vs Q E hr h => ?_)
  · obtain ⟨_, _, _, rfl, _⟩ := h
    rfl
  refine ⟨_, PSs.nox (pss_cons (ps_set (i := 1) sc.nd rfl (Or.inl rfl) (pe_lst (pa_cons (pe_fx (pe_ix ix_list (pv 0) pe_int (fun _ _ => rfl))) (pa_cons (pe_fx (pe_ix ix_list (pv 0) pe_int (fun _ _ => rfl))) (pa_cons (pe_fx (pe_ix ix_list (pv 0) pe_int (fun _ _ => rfl))) (pa_cons (pe_fx (pe_ix ix_list (pv 0) pe_int (fun _ _ => rfl))) (pa_cons (pe_fx (pe_ix ix_list (pv 0) pe_int (fun _ _ => rfl))) (pa_cons (pe_fx (pe_ix ix_list (pv 0) pe_int (fun _ _ => rfl))) pa_nil))))))))
      (pss_cons (ps_set (i := 1) sc.nd rfl (Or.inl rfl) (pe_op op_cat (pv 1) (pe_lst (pa_cons (pe_fx (pe_ix ix_list (pv 0) pe_int (fun _ _ => rfl))) (pa_cons (pe_fx (pe_ix ix_list (pv 0) pe_int (fun _ _ => rfl))) (pa_cons (pe_fx (pe_ix ix_list (pv 0) pe_int (fun _ _ => rfl))) (pa_cons (pe_fx (pe_ix ix_list (pv 0) pe_int (fun _ _ => rfl))) (pa_cons (pe_fx (pe_ix ix_list (pv 0) pe_int (fun _ _ => rfl))) pa_nil))))))))
      (pss_one (ps_ret (pe_op op_cat (pv 1) (pe_lst (pa_cons (pe_fx (pe_ix ix_list (pv 0) pe_int (fun _ _ => rfl))) (pa_cons (pe_fx (pe_ix ix_list (pv 0) pe_int (fun _ _ => rfl))) pa_nil)))))))), ?_⟩
  obtain ⟨v, u, _, rfl, ⟨p, vs, rfl, hp, hs⟩, k⟩ := h
  obtain ⟨a0, h0, r0⟩ := hs.err 0 (x := "BadBook") rfl
  obtain ⟨a1, h1, r1⟩ := hs.err 1 (x := "BadTable") rfl
  obtain ⟨a2, h2, r2⟩ := hs.err 2 (x := "BadProgram") rfl
  obtain ⟨a3, h3, r3⟩ := hs.err 3 (x := "BadText") rfl
  obtain ⟨a4, h4, r4⟩ := hs.err 4 (x := "TooMany") rfl
  obtain ⟨a5, h5, r5⟩ := hs.err 5 (x := "NoName") rfl
  obtain ⟨a6, h6, r6⟩ := hs.err 6 (x := "Kept") rfl
  obtain ⟨a7, h7, r7⟩ := hs.err 7 (x := "NeedsItself") rfl
  obtain ⟨a8, h8, r8⟩ := hs.err 8 (x := "Unclear") rfl
  obtain ⟨a9, h9, r9⟩ := hs.err 9 (x := "Unmet") rfl
  refine q_asgL (el_lst (ea_cons (ev_fx (ev_op (ev_var rfl) ev_c (rv_ixL (sq_of hp) (atI_nat (j := 0) h0))) r0 T.kBadBook.er (T.na "BadBook" "part") rfl) (ea_cons (ev_fx (ev_op (ev_var rfl) ev_c (rv_ixL (sq_of hp) (atI_nat (j := 1) h1))) r1 T.kBadTable.er (T.na "BadTable" "part") rfl) (ea_cons (ev_fx (ev_op (ev_var rfl) ev_c (rv_ixL (sq_of hp) (atI_nat (j := 2) h2))) r2 T.kBadProgram.er (T.na "BadProgram" "part") rfl) (ea_cons (ev_fx (ev_op (ev_var rfl) ev_c (rv_ixL (sq_of hp) (atI_nat (j := 3) h3))) r3 T.kBadText.er (T.na "BadText" "place") rfl) (ea_cons (ev_fx (ev_op (ev_var rfl) ev_c (rv_ixL (sq_of hp) (atI_nat (j := 4) h4))) r4 T.kTooMany.er (T.na "TooMany" "most") rfl) (ea_cons (ev_fx (ev_op (ev_var rfl) ev_c (rv_ixL (sq_of hp) (atI_nat (j := 5) h5))) r5 T.kNoName.er (T.na "NoName" "name") rfl) ea_nil)))))) (by show 6 ≤ 100000; decide)) fun p1 H1 n1 e1 l1 => ?_
  have hp := e1 _ _ hp
  have r0 := r0.mono e1
  have r1 := r1.mono e1
  have r2 := r2.mono e1
  have r3 := r3.mono e1
  have r4 := r4.mono e1
  have r5 := r5.mono e1
  have r6 := r6.mono e1
  have r7 := r7.mono e1
  have r8 := r8.mono e1
  have r9 := r9.mono e1
  refine q_asgL (el_cat (ev_var rfl) l1 (el_lst (ea_cons (ev_fx (ev_op (ev_var rfl) ev_c (rv_ixL (sq_of hp) (atI_nat (j := 6) h6))) r6 T.kKept.er (T.na "Kept" "name") rfl) (ea_cons (ev_fx (ev_op (ev_var rfl) ev_c (rv_ixL (sq_of hp) (atI_nat (j := 7) h7))) r7 T.kNeedsItself.er (T.na "NeedsItself" "family") rfl) (ea_cons (ev_fx (ev_op (ev_var rfl) ev_c (rv_ixL (sq_of hp) (atI_nat (j := 7) h7))) r7 T.kNeedsItself.er (T.na "NeedsItself" "use") rfl) (ea_cons (ev_fx (ev_op (ev_var rfl) ev_c (rv_ixL (sq_of hp) (atI_nat (j := 8) h8))) r8 T.kUnclear.er (T.na "Unclear" "family") rfl) (ea_cons (ev_fx (ev_op (ev_var rfl) ev_c (rv_ixL (sq_of hp) (atI_nat (j := 8) h8))) r8 T.kUnclear.er (T.na "Unclear" "use") rfl) ea_nil))))) (by show 5 ≤ 100000; decide)) (by show 11 ≤ 100000; decide)) fun p2 H2 n2 e2 l2 => ?_
  have hp := e2 _ _ hp
  have r0 := r0.mono e2
  have r1 := r1.mono e2
  have r2 := r2.mono e2
  have r3 := r3.mono e2
  have r4 := r4.mono e2
  have r5 := r5.mono e2
  have r6 := r6.mono e2
  have r7 := r7.mono e2
  have r8 := r8.mono e2
  have r9 := r9.mono e2
  refine s_retL (el_cat (ev_var rfl) l2 (el_lst (ea_cons (ev_fx (ev_op (ev_var rfl) ev_c (rv_ixL (sq_of hp) (atI_nat (j := 9) h9))) r9 T.kUnmet.er (T.na "Unmet" "family") rfl) (ea_cons (ev_fx (ev_op (ev_var rfl) ev_c (rv_ixL (sq_of hp) (atI_nat (j := 9) h9))) r9 T.kUnmet.er (T.na "Unmet" "use") rfl) ea_nil)) (by show 2 ≤ 100000; decide)) (by show 13 ≤ 100000; decide)) fun p3 H3 n3 e3 l3 => ?_
  exact k _ _ (fresh_back (e1.trans e2) n3) ((e1.trans e2).trans e3) l3
/-- the k-th error that is raised -/
def errAt (n : Nat) : Str × Nat := errs.getD n ("", 0)
def spRaise (K : PySem.W.Frag) : Sp := fun vs H _ E => ∃ (n : Nat) (v u : V), vs = [.int n, v, u] ∧ n < 10 ∧ ∀ d H1, Ex H H1 → H1 d = none → E (.ref (He.ga K (errAt n).1)) (some d) (upd H1 d (.xd (fsOf (errAt n).2 v u)))
section
variable {σ : L2.St} {H : Hp} {C kind : Addr} {f : Str} {ta : TA} {v u : V} {E : XK}
theorem let_go {H1 H2 : Hp} {a d : Addr} {o : HO} (ha : H1 a = none) (h : ∀ b, b ≠ a → b ≠ d → H2 b = H1 b) (ad : a ≠ d) : upd (del H2 a) d o = upd H1 d o := by
  funext b
  by_cases e : b = d
  · rw [e, upd_same, upd_same]
  · rw [upd_ne e, upd_ne e]
    by_cases e2 : b = a
    · rw [e2, del_same, ha]
    · rw [del_ne e2, h b e2 e]
theorem rs1 (T : ErrC K kind C) (no : PySem.W.findIn K (.ref C) f = some none) (h : EvA ta σ H [v]) (q : ∀ d H1, Ex H H1 → H1 d = none → E (.ref C) (some d) (upd H1 d (.xd [(f, v)]))) : tMkO C (spI1 K f) [] ta σ H (fun cls d H' => E cls d H') :=
  h H (Ex.refl H) _ fun H1 e => ⟨by show 1 ≤ 1000; decide, fun a ha => ⟨a, C, kind, v, rfl, T, no, upd_same, fun d hd ne => ⟨rfl, d, [(f, v)], upd_same, by rw [upd_ne ne]; exact upd_same, (fresh_upd hd).1, by
    rw [let_go ha (fun b b1 b2 => by rw [upd_ne b1, upd_ne b2, upd_ne b1]) (Ne.symm ne)]
    exact q d H1 e (fresh_upd hd).1⟩⟩⟩
theorem rs2 (T : ErrC K kind C) (n1 : PySem.W.findIn K (.ref C) "family" = some none) (n2 : PySem.W.findIn K (.ref C) "use" = some none) (h : EvA ta σ H [v, u]) (q : ∀ d H1, Ex H H1 → H1 d = none → E (.ref C) (some d) (upd H1 d (.xd [("use", u), ("family", v)]))) :
    tMkO C (spI2 K) [] ta σ H (fun cls d H' => E cls d H') :=
  h H (Ex.refl H) _ fun H1 e => ⟨by show 2 ≤ 1000; decide, fun a ha => ⟨a, C, kind, v, u, rfl, T, n1, n2, upd_same, fun d hd ne => ⟨rfl, d, [("use", u), ("family", v)], by rw [upd_ne (Ne.symm ne)]; exact upd_same, upd_same, (fresh_upd hd).1, by
    rw [let_go ha (fun b b1 b2 => by rw [upd_ne b2, upd_ne b1, upd_ne b2, upd_ne b1]) (Ne.symm ne)]
    exact q d H1 e (fresh_upd hd).1⟩⟩⟩
end
theorem scR : FnScope ["which", "one", "two"] ["which", "one", "two"] (defScope (top 38)) := ⟨rfl, rfl, rfl, by decide +kernel, rfl, by decide +kernel, by decide +kernel⟩
theorem ok_raise (F : FnT K "_law_raise" (top 38) f fd) (T : Ks P w K mg base) : FnOk P w K mg base (L2.CX P w) 3 f fd ["which", "one", "two"] (spRaise K) := by
  have sc := scR
  refine F.ok scR (fun vs H Q E h => ?_) (fun cdv A outer s H vs Q E hr h => ?_)
  · obtain ⟨_, _, _, rfl, _⟩ := h
    rfl
  refine ⟨_, (pss_cons (ps_if (pt_cmpR op_eq (pv 0) pe_int (nomark _)) (pss_one (ps_raise rfl (takes_of rfl rfl rfl rfl) (pmk_mk T.kBadBook hr (pa_cons (pv 1) pa_nil)))) pss_nil)
      (pss_cons (ps_if (pt_cmpR op_eq (pv 0) pe_int (nomark _)) (pss_one (ps_raise rfl (takes_of rfl rfl rfl rfl) (pmk_mk T.kBadTable hr (pa_cons (pv 1) pa_nil)))) pss_nil)
      (pss_cons (ps_if (pt_cmpR op_eq (pv 0) pe_int (nomark _)) (pss_one (ps_raise rfl (takes_of rfl rfl rfl rfl) (pmk_mk T.kBadProgram hr (pa_cons (pv 1) pa_nil)))) pss_nil)
      (pss_cons (ps_if (pt_cmpR op_eq (pv 0) pe_int (nomark _)) (pss_one (ps_raise rfl (takes_of rfl rfl rfl rfl) (pmk_mk T.kBadText hr (pa_cons (pv 1) pa_nil)))) pss_nil)
      (pss_cons (ps_if (pt_cmpR op_eq (pv 0) pe_int (nomark _)) (pss_one (ps_raise rfl (takes_of rfl rfl rfl rfl) (pmk_mk T.kTooMany hr (pa_cons (pv 1) pa_nil)))) pss_nil)
      (pss_cons (ps_if (pt_cmpR op_eq (pv 0) pe_int (nomark _)) (pss_one (ps_raise rfl (takes_of rfl rfl rfl rfl) (pmk_mk T.kNoName hr (pa_cons (pv 1) pa_nil)))) pss_nil)
      (pss_cons (ps_if (pt_cmpR op_eq (pv 0) pe_int (nomark _)) (pss_one (ps_raise rfl (takes_of rfl rfl rfl rfl) (pmk_mk T.kKept hr (pa_cons (pv 1) pa_nil)))) pss_nil)
      (pss_cons (ps_if (pt_cmpR op_eq (pv 0) pe_int (nomark _)) (pss_one (ps_raise rfl (takes_of rfl rfl rfl rfl) (pmk_mk T.kNeedsItself hr (pa_cons (pv 1) (pa_cons (pv 2) pa_nil))))) pss_nil)
      (pss_cons (ps_if (pt_cmpR op_eq (pv 0) pe_int (nomark _)) (pss_one (ps_raise rfl (takes_of rfl rfl rfl rfl) (pmk_mk T.kUnclear hr (pa_cons (pv 1) (pa_cons (pv 2) pa_nil))))) pss_nil)
      (pss_one (ps_raise rfl (takes_of rfl rfl rfl rfl) (pmk_mk T.kUnmet hr (pa_cons (pv 1) (pa_cons (pv 2) pa_nil)))))))))))))), ?_⟩
  obtain ⟨n, v, u, rfl, hn, k⟩ := h
  refine q_when (b := decide (V.int (n : Nat) = V.int 0)) (et_test (ev_op (ev_var rfl) ev_c (rv_eq rfl))) (fun hb Hx ex => ?_) (fun hb0 H1 e1 => ?_)
  · obtain rfl : n = 0 := by have z := V.int.inj (of_decide_eq_true hb); omega
    exact rs1 T.kBadBook.er (T.na "BadBook" "part") (ea_cons (ev_var rfl) ea_nil) fun d Hy ey hd => k d Hy ((Ex.refl H).trans (ex.trans ey)) hd
  refine q_when (b := decide (V.int (n : Nat) = V.int 1)) (et_test (ev_op (ev_var rfl) ev_c (rv_eq rfl))) (fun hb Hx ex => ?_) (fun hb1 H2 e2 => ?_)
  · obtain rfl : n = 1 := by have z := V.int.inj (of_decide_eq_true hb); omega
    exact rs1 T.kBadTable.er (T.na "BadTable" "part") (ea_cons (ev_var rfl) ea_nil) fun d Hy ey hd => k d Hy (((Ex.refl H).trans e1).trans (ex.trans ey)) hd
  refine q_when (b := decide (V.int (n : Nat) = V.int 2)) (et_test (ev_op (ev_var rfl) ev_c (rv_eq rfl))) (fun hb Hx ex => ?_) (fun hb2 H3 e3 => ?_)
  · obtain rfl : n = 2 := by have z := V.int.inj (of_decide_eq_true hb); omega
    exact rs1 T.kBadProgram.er (T.na "BadProgram" "part") (ea_cons (ev_var rfl) ea_nil) fun d Hy ey hd => k d Hy ((((Ex.refl H).trans e1).trans e2).trans (ex.trans ey)) hd
  refine q_when (b := decide (V.int (n : Nat) = V.int 3)) (et_test (ev_op (ev_var rfl) ev_c (rv_eq rfl))) (fun hb Hx ex => ?_) (fun hb3 H4 e4 => ?_)
  · obtain rfl : n = 3 := by have z := V.int.inj (of_decide_eq_true hb); omega
    exact rs1 T.kBadText.er (T.na "BadText" "place") (ea_cons (ev_var rfl) ea_nil) fun d Hy ey hd => k d Hy (((((Ex.refl H).trans e1).trans e2).trans e3).trans (ex.trans ey)) hd
  refine q_when (b := decide (V.int (n : Nat) = V.int 4)) (et_test (ev_op (ev_var rfl) ev_c (rv_eq rfl))) (fun hb Hx ex => ?_) (fun hb4 H5 e5 => ?_)
  · obtain rfl : n = 4 := by have z := V.int.inj (of_decide_eq_true hb); omega
    exact rs1 T.kTooMany.er (T.na "TooMany" "most") (ea_cons (ev_var rfl) ea_nil) fun d Hy ey hd => k d Hy ((((((Ex.refl H).trans e1).trans e2).trans e3).trans e4).trans (ex.trans ey)) hd
  refine q_when (b := decide (V.int (n : Nat) = V.int 5)) (et_test (ev_op (ev_var rfl) ev_c (rv_eq rfl))) (fun hb Hx ex => ?_) (fun hb5 H6 e6 => ?_)
  · obtain rfl : n = 5 := by have z := V.int.inj (of_decide_eq_true hb); omega
    exact rs1 T.kNoName.er (T.na "NoName" "name") (ea_cons (ev_var rfl) ea_nil) fun d Hy ey hd => k d Hy (((((((Ex.refl H).trans e1).trans e2).trans e3).trans e4).trans e5).trans (ex.trans ey)) hd
  refine q_when (b := decide (V.int (n : Nat) = V.int 6)) (et_test (ev_op (ev_var rfl) ev_c (rv_eq rfl))) (fun hb Hx ex => ?_) (fun hb6 H7 e7 => ?_)
  · obtain rfl : n = 6 := by have z := V.int.inj (of_decide_eq_true hb); omega
    exact rs1 T.kKept.er (T.na "Kept" "name") (ea_cons (ev_var rfl) ea_nil) fun d Hy ey hd => k d Hy ((((((((Ex.refl H).trans e1).trans e2).trans e3).trans e4).trans e5).trans e6).trans (ex.trans ey)) hd
  refine q_when (b := decide (V.int (n : Nat) = V.int 7)) (et_test (ev_op (ev_var rfl) ev_c (rv_eq rfl))) (fun hb Hx ex => ?_) (fun hb7 H8 e8 => ?_)
  · obtain rfl : n = 7 := by have z := V.int.inj (of_decide_eq_true hb); omega
    exact rs2 T.kNeedsItself.er (T.na "NeedsItself" "family") (T.na "NeedsItself" "use") (ea_cons (ev_var rfl) (ea_cons (ev_var rfl) ea_nil)) fun d Hy ey hd => k d Hy (((((((((Ex.refl H).trans e1).trans e2).trans e3).trans e4).trans e5).trans e6).trans e7).trans (ex.trans ey)) hd
  refine q_when (b := decide (V.int (n : Nat) = V.int 8)) (et_test (ev_op (ev_var rfl) ev_c (rv_eq rfl))) (fun hb Hx ex => ?_) (fun hb8 H9 e9 => ?_)
  · obtain rfl : n = 8 := by have z := V.int.inj (of_decide_eq_true hb); omega
    exact rs2 T.kUnclear.er (T.na "Unclear" "family") (T.na "Unclear" "use") (ea_cons (ev_var rfl) (ea_cons (ev_var rfl) ea_nil)) fun d Hy ey hd => k d Hy ((((((((((Ex.refl H).trans e1).trans e2).trans e3).trans e4).trans e5).trans e6).trans e7).trans e8).trans (ex.trans ey)) hd
  obtain rfl : n = 9 := by
    have c0 : n ≠ 0 := fun z => by simp [z] at hb0
    have c1 : n ≠ 1 := fun z => by simp [z] at hb1
    have c2 : n ≠ 2 := fun z => by simp [z] at hb2
    have c3 : n ≠ 3 := fun z => by simp [z] at hb3
    have c4 : n ≠ 4 := fun z => by simp [z] at hb4
    have c5 : n ≠ 5 := fun z => by simp [z] at hb5
    have c6 : n ≠ 6 := fun z => by simp [z] at hb6
    have c7 : n ≠ 7 := fun z => by simp [z] at hb7
    have c8 : n ≠ 8 := fun z => by simp [z] at hb8
    omega
  exact rs2 T.kUnmet.er (T.na "Unmet" "family") (T.na "Unmet" "use") (ea_cons (ev_var rfl) (ea_cons (ev_var rfl) ea_nil)) fun d Hy ey hd => k d Hy (((((((((((Ex.refl H).trans e1).trans e2).trans e3).trans e4).trans e5).trans e6).trans e7).trans e8).trans e9).trans ey) hd
end
end K00
set_option maxHeartbeats 16000000
/-! An error is caught by its own class with its fields, and by the base. -/
namespace K00
open PySem PySem.Spec PyProof.Rows L2 Evl LL
section
variable {P : Program} {w : World} {K : PySem.W.Frag} {mg : Str → Option Value} {base : Heap} {f : Addr} {fd : FuncData}
def line (K : PySem.W.Frag) : List Addr := (("KindError" : Str) :: errs.map (·.1)).map (He.ga K)
theorem line_at {i : Nat} (hi : i < 28) : (line K)[i + 1]? = some (He.ga K (errAt i).1) := by
  unfold line
  have hl : errs.length = 28 := rfl
  have h2 : i < errs.length := by omega
  rw [List.map_cons, List.getElem?_cons_succ, List.map_map, List.getElem?_map, List.getElem?_eq_getElem h2]
  show some (He.ga K errs[i].1) = _
  unfold errAt
  rw [List.getD_eq_getElem?_getD, List.getElem?_eq_getElem h2]
  rfl
theorem Ks.line_ne (T : Ks P w K mg base) {i j : Nat} {a b : Addr} (ha : (line K)[i]? = some a) (hb : (line K)[j]? = some b) (ne : i ≠ j) : a ≠ b := fun e => by
  have nd : (line K).Nodup := T.nd
  obtain ⟨h1, e1⟩ := List.getElem?_eq_some_iff.mp ha
  obtain ⟨h2, e2⟩ := List.getElem?_eq_some_iff.mp hb
  exact ne ((List.getElem_inj nd).mp (e1.trans (e.trans e2.symm)))
theorem Ks.at_ (T : Ks P w K mg base) {i : Nat} (hi : i < 28) : ErrC K (He.ga K "KindError") (He.ga K (errAt i).1) := by
  have hl : errs.length = 28 := rfl
  have h2 : i < errs.length := by omega
  refine T.er (errAt i) ?_
  unfold errAt
  rw [List.getD_eq_getElem?_getD, List.getElem?_eq_getElem h2]
  exact List.getElem_mem h2
theorem Ks.exm (T : Ks P w K mg base) {i j : Nat} (hi : i < 28) (hj : j < 28) : PySem.W.exmOne K (.ref (He.ga K (errAt i).1)) (.ref (He.ga K (errAt j).1)) = some (decide (j = i)) := by
  rw [(T.at_ hi).exm (T.at_ hj)]
  congr 1
  have n0 : He.ga K (errAt j).1 ≠ He.ga K "KindError" := T.line_ne (line_at hj) (show (line K)[0]? = some (He.ga K "KindError") from rfl) (by omega)
  by_cases e : j = i
  · subst e
    simp
  · have n1 : He.ga K (errAt j).1 ≠ He.ga K (errAt i).1 := T.line_ne (line_at hj) (line_at hi) (by omega)
    simp [n0, n1, e]
theorem wCls_hit {W : WX} {D : Ends} {cls : Value} {d : Option Addr} {σ : L2.St} {H : Hp} : ∀ {l : List Cl} {n : Nat} {q : Cl}, l[n]? = some q → (∀ (j : Nat) (q' : Cl), j < n → l[j]? = some q' → PySem.W.exmOne K cls q'.c = some false) → PySem.W.exmOne K cls q.c = some true →
    (∀ a, H a = none → q.ts a cls d (gone D q.i) (σ.set q.i (some (.ref a))) H) → wCls K W D l cls d σ H
  | [], n, q, h, _, _, _ => by simp at h
  | q0 :: l, 0, q, h, _, h2, h3 => by
    have e : q0 = q := by simpa using h
    subst e
    exact ⟨true, h2, fun _ => h3, fun z => nomatch z⟩
  | q0 :: l, n + 1, q, h, h1, h2, h3 =>
    ⟨false, h1 0 q0 (Nat.succ_pos n) rfl, (fun z => nomatch z), fun _ => wCls_hit (l := l) (n := n) (by simpa using h) (fun j q' hj hq => h1 (j + 1) q' (by omega) (by simpa using hq)) h2 h3⟩
def valsOf (n : Nat) (v u : V) : List V := if n < 7 then [v] else [v, u]
def spCaught : Sp := fun vs H Q _ => ∃ (n : Nat) (v u : V), vs = [.int n, v, u] ∧ n < 10 ∧ ∀ p l H', Ex H H' → H' p = some (.tup [.int n, .ref l]) → H' l = some (.lst (valsOf n v u)) → Q (.ref p) H'
section
variable {σ : L2.St} {H : Hp} {D : Ends} {a C d : Addr} {i : Int} {f g : Str} {fs : List (Str × V)} {v u : V}
theorem suite1 (h4 : σ[4]? = some (some (.ref a))) (hd : H d = some (.xd fs)) (h1 : fs.lookup f = some v) (k : ∀ l t H', Ex H H' → H' l = some (.lst [v]) → H' t = some (.tup [.int i, .ref l]) → D.nx (σ.set 3 (some (.ref t))) H') :
    tAsg (tTup (tCons (tC (.int i)) (tCons (tLst (tCons (tXf a (.ref C) (some d) C f (tVar 4)) tNil)) tNil))) (gName 3) D σ H := by
  refine ⟨_, h4, rfl, rfl, d, fs, v, rfl, hd, h1, by show 1 ≤ sizeLine; decide, fun l hl => ⟨by show 2 ≤ sizeLine; decide, fun t ht => ?_⟩⟩
  exact k l t _ ((Ex.new hl).trans (Ex.new ht)) (by rw [upd_ne (fun z => by rw [← z, upd_same] at ht; cases ht)]; exact upd_same) upd_same
theorem suite2 (h4 : σ[4]? = some (some (.ref a))) (hd : H d = some (.xd fs)) (h1 : fs.lookup f = some v) (h2 : fs.lookup g = some u) (k : ∀ l t H', Ex H H' → H' l = some (.lst [v, u]) → H' t = some (.tup [.int i, .ref l]) → D.nx (σ.set 3 (some (.ref t))) H') :
    tAsg (tTup (tCons (tC (.int i)) (tCons (tLst (tCons (tXf a (.ref C) (some d) C f (tVar 4)) (tCons (tXf a (.ref C) (some d) C g (tVar 4)) tNil))) tNil))) (gName 3) D σ H := by
  refine ⟨_, h4, rfl, rfl, d, fs, v, rfl, hd, h1, _, h4, rfl, rfl, d, fs, u, rfl, hd, h2, by show 2 ≤ sizeLine; decide, fun l hl => ⟨by show 2 ≤ sizeLine; decide, fun t ht => ?_⟩⟩
  exact k l t _ ((Ex.new hl).trans (Ex.new ht)) (by rw [upd_ne (fun z => by rw [← z, upd_same] at ht; cases ht)]; exact upd_same) upd_same
end
structure Rs (P : Program) (w : World) (K : PySem.W.Frag) (mg : Str → Option Value) (base : Heap) : Prop extends Ks P w K mg base where
  h_law_raise : Has P w K mg base (L2.CX P w) "_law_raise" 3 ["which", "one", "two"] (spRaise K)
theorem scC : FnScope ["which", "one", "two", "found", "error"] ["which", "one", "two"] (defScope (top 39)) := ⟨rfl, rfl, rfl, by decide +kernel, rfl, by decide +kernel, by decide +kernel⟩
theorem ok_caught (F : FnT K "_law_caught" (top 39) f fd) (T : Rs P w K mg base) : FnOk P w K mg base CX0 4 f fd ["which", "one", "two"] spCaught := by
  have sc := scC
  refine F.ok scC (fun vs H Q E h => ?_) (fun cdv A outer s H vs Q E hr h => ?_)
  · obtain ⟨_, _, _, rfl, _⟩ := h
    rfl
  refine ⟨_, PSs.nox (pss_cons (ps_set (i := 3) sc.nd rfl (Or.inl rfl) (pe_tup (pa_cons pe_int (pa_cons (pe_lst pa_nil) pa_nil))))
      (pss_cons (ps_tryC (tb := fun W => tDrop (tCallS (spRaise K) (WE W) (tCons (tVar 0) (tCons (tVar 1) (tCons (tVar 2) tNil))))) (W := fun _ _ _ _ => False) rfl rfl sc.nd takes0
        (fun W pn xe tk _ => pss_one (ps_expr (by exact (pe_callHS T.h_law_raise hr tk (by exact (pa_cons (pv 0) (pa_cons (pv 1) (pa_cons (pv 2) pa_nil)))))))) (Cls.cons (q := ⟨.ref (He.ga K "BadBook"), 4, fun a cls d => tAsg (tTup (tCons (tC (.int 0)) (tCons (tLst (tCons (tXf a cls d (He.ga K "BadBook") "part" (tVar 4)) tNil)) tNil))) (gName 3)⟩) ⟨rfl, by decide, Or.inl T.kBadBook.gC⟩ rfl rfl (fun a oe cls d pn hz hf => by exact pss_one (ps_set (i := 3) sc.nd rfl (Or.inl rfl) (pe_tup (pa_cons pe_int (pa_cons (pe_lst (pa_cons (pe_xfP List.mem_cons_self T.kBadBook.er.xf (T.na "BadBook" "part") hz hf (pv 4)) pa_nil)) pa_nil)))))
      (Cls.cons (q := ⟨.ref (He.ga K "BadTable"), 4, fun a cls d => tAsg (tTup (tCons (tC (.int 1)) (tCons (tLst (tCons (tXf a cls d (He.ga K "BadTable") "part" (tVar 4)) tNil)) tNil))) (gName 3)⟩) ⟨rfl, by decide, Or.inl T.kBadTable.gC⟩ rfl rfl (fun a oe cls d pn hz hf => by exact pss_one (ps_set (i := 3) sc.nd rfl (Or.inl rfl) (pe_tup (pa_cons pe_int (pa_cons (pe_lst (pa_cons (pe_xfP List.mem_cons_self T.kBadTable.er.xf (T.na "BadTable" "part") hz hf (pv 4)) pa_nil)) pa_nil)))))
      (Cls.cons (q := ⟨.ref (He.ga K "BadProgram"), 4, fun a cls d => tAsg (tTup (tCons (tC (.int 2)) (tCons (tLst (tCons (tXf a cls d (He.ga K "BadProgram") "part" (tVar 4)) tNil)) tNil))) (gName 3)⟩) ⟨rfl, by decide, Or.inl T.kBadProgram.gC⟩ rfl rfl (fun a oe cls d pn hz hf => by exact pss_one (ps_set (i := 3) sc.nd rfl (Or.inl rfl) (pe_tup (pa_cons pe_int (pa_cons (pe_lst (pa_cons (pe_xfP List.mem_cons_self T.kBadProgram.er.xf (T.na "BadProgram" "part") hz hf (pv 4)) pa_nil)) pa_nil)))))
      (Cls.cons (q := ⟨.ref (He.ga K "BadText"), 4, fun a cls d => tAsg (tTup (tCons (tC (.int 3)) (tCons (tLst (tCons (tXf a cls d (He.ga K "BadText") "place" (tVar 4)) tNil)) tNil))) (gName 3)⟩) ⟨rfl, by decide, Or.inl T.kBadText.gC⟩ rfl rfl (fun a oe cls d pn hz hf => by exact pss_one (ps_set (i := 3) sc.nd rfl (Or.inl rfl) (pe_tup (pa_cons pe_int (pa_cons (pe_lst (pa_cons (pe_xfP List.mem_cons_self T.kBadText.er.xf (T.na "BadText" "place") hz hf (pv 4)) pa_nil)) pa_nil)))))
      (Cls.cons (q := ⟨.ref (He.ga K "TooMany"), 4, fun a cls d => tAsg (tTup (tCons (tC (.int 4)) (tCons (tLst (tCons (tXf a cls d (He.ga K "TooMany") "most" (tVar 4)) tNil)) tNil))) (gName 3)⟩) ⟨rfl, by decide, Or.inl T.kTooMany.gC⟩ rfl rfl (fun a oe cls d pn hz hf => by exact pss_one (ps_set (i := 3) sc.nd rfl (Or.inl rfl) (pe_tup (pa_cons pe_int (pa_cons (pe_lst (pa_cons (pe_xfP List.mem_cons_self T.kTooMany.er.xf (T.na "TooMany" "most") hz hf (pv 4)) pa_nil)) pa_nil)))))
      (Cls.cons (q := ⟨.ref (He.ga K "NoName"), 4, fun a cls d => tAsg (tTup (tCons (tC (.int 5)) (tCons (tLst (tCons (tXf a cls d (He.ga K "NoName") "name" (tVar 4)) tNil)) tNil))) (gName 3)⟩) ⟨rfl, by decide, Or.inl T.kNoName.gC⟩ rfl rfl (fun a oe cls d pn hz hf => by exact pss_one (ps_set (i := 3) sc.nd rfl (Or.inl rfl) (pe_tup (pa_cons pe_int (pa_cons (pe_lst (pa_cons (pe_xfP List.mem_cons_self T.kNoName.er.xf (T.na "NoName" "name") hz hf (pv 4)) pa_nil)) pa_nil)))))
      (Cls.cons (q := ⟨.ref (He.ga K "Kept"), 4, fun a cls d => tAsg (tTup (tCons (tC (.int 6)) (tCons (tLst (tCons (tXf a cls d (He.ga K "Kept") "name" (tVar 4)) tNil)) tNil))) (gName 3)⟩) ⟨rfl, by decide, Or.inl T.kKept.gC⟩ rfl rfl (fun a oe cls d pn hz hf => by exact pss_one (ps_set (i := 3) sc.nd rfl (Or.inl rfl) (pe_tup (pa_cons pe_int (pa_cons (pe_lst (pa_cons (pe_xfP List.mem_cons_self T.kKept.er.xf (T.na "Kept" "name") hz hf (pv 4)) pa_nil)) pa_nil)))))
      (Cls.cons (q := ⟨.ref (He.ga K "NeedsItself"), 4, fun a cls d => tAsg (tTup (tCons (tC (.int 7)) (tCons (tLst (tCons (tXf a cls d (He.ga K "NeedsItself") "family" (tVar 4)) (tCons (tXf a cls d (He.ga K "NeedsItself") "use" (tVar 4)) tNil))) tNil))) (gName 3)⟩) ⟨rfl, by decide, Or.inl T.kNeedsItself.gC⟩ rfl rfl (fun a oe cls d pn hz hf => by exact pss_one (ps_set (i := 3) sc.nd rfl (Or.inl rfl) (pe_tup (pa_cons pe_int (pa_cons (pe_lst (pa_cons (pe_xfP List.mem_cons_self T.kNeedsItself.er.xf (T.na "NeedsItself" "family") hz hf (pv 4)) (pa_cons (pe_xfP List.mem_cons_self T.kNeedsItself.er.xf (T.na "NeedsItself" "use") hz hf (pv 4)) pa_nil))) pa_nil)))))
      (Cls.cons (q := ⟨.ref (He.ga K "Unclear"), 4, fun a cls d => tAsg (tTup (tCons (tC (.int 8)) (tCons (tLst (tCons (tXf a cls d (He.ga K "Unclear") "family" (tVar 4)) (tCons (tXf a cls d (He.ga K "Unclear") "use" (tVar 4)) tNil))) tNil))) (gName 3)⟩) ⟨rfl, by decide, Or.inl T.kUnclear.gC⟩ rfl rfl (fun a oe cls d pn hz hf => by exact pss_one (ps_set (i := 3) sc.nd rfl (Or.inl rfl) (pe_tup (pa_cons pe_int (pa_cons (pe_lst (pa_cons (pe_xfP List.mem_cons_self T.kUnclear.er.xf (T.na "Unclear" "family") hz hf (pv 4)) (pa_cons (pe_xfP List.mem_cons_self T.kUnclear.er.xf (T.na "Unclear" "use") hz hf (pv 4)) pa_nil))) pa_nil)))))
      (Cls.cons (q := ⟨.ref (He.ga K "Unmet"), 4, fun a cls d => tAsg (tTup (tCons (tC (.int 9)) (tCons (tLst (tCons (tXf a cls d (He.ga K "Unmet") "family" (tVar 4)) (tCons (tXf a cls d (He.ga K "Unmet") "use" (tVar 4)) tNil))) tNil))) (gName 3)⟩) ⟨rfl, by decide, Or.inl T.kUnmet.gC⟩ rfl rfl (fun a oe cls d pn hz hf => by exact pss_one (ps_set (i := 3) sc.nd rfl (Or.inl rfl) (pe_tup (pa_cons pe_int (pa_cons (pe_lst (pa_cons (pe_xfP List.mem_cons_self T.kUnmet.er.xf (T.na "Unmet" "family") hz hf (pv 4)) (pa_cons (pe_xfP List.mem_cons_self T.kUnmet.er.xf (T.na "Unmet" "use") hz hf (pv 4)) pa_nil))) pa_nil)))))
      .nil)))))))))))
      (pss_one (ps_ret (pv 3))))), ?_⟩
  obtain ⟨n, v, u, rfl, hn, k⟩ := h
  refine ⟨by show 0 ≤ sizeLine; decide, fun l0 hl0 => ⟨by show 2 ≤ sizeLine; decide, fun t0 ht0 => ?_⟩⟩
  refine ⟨_, rfl, _, rfl, _, rfl, n, v, u, rfl, hn, fun d H2 e2 hd => ?_⟩
  have ex := ((Ex.new hl0).trans (Ex.new (o := .tup [.int 10, .ref l0]) ht0)).trans e2
  have hit : ∀ {q : Cl} {D : Ends} {σ : L2.St} {H : Hp} {l : List Cl}, l[n]? = some q → (∀ a, H a = none → q.ts a (.ref (He.ga K (errAt n).1)) (some d) (gone D q.i) (σ.set q.i (some (.ref a))) H) →
      (l.map (·.c)) = (List.range 10).map (fun j => Value.ref (He.ga K (errAt j).1)) → wCls K (fun _ _ _ _ => False) D l (.ref (He.ga K (errAt n).1)) (some d) σ H := by
    intro q D σ H l hq ts hl
    have cls : ∀ (j : Nat) (q' : Cl), l[j]? = some q' → j < 10 ∧ q'.c = .ref (He.ga K (errAt j).1) := fun j q' hj => by
      have e : (l.map (·.c))[j]? = some q'.c := by rw [List.getElem?_map, hj]; rfl
      rw [hl, List.getElem?_map] at e
      obtain ⟨j2, e2, e3⟩ := Option.map_eq_some_iff.mp e
      obtain ⟨h1, h2⟩ := List.getElem?_eq_some_iff.mp e2
      rw [List.getElem_range] at h2
      subst h2
      exact ⟨by simpa using h1, e3.symm⟩
    refine wCls_hit hq (fun j q' hj hq' => ?_) ?_ ts
    · obtain ⟨h1, h2⟩ := cls j q' hq'
      rw [h2, T.exm (by omega) (by omega), decide_eq_false (by omega)]
    · obtain ⟨h1, h2⟩ := cls n q hq
      rw [h2, T.exm (by omega) (by omega), decide_eq_true rfl]
  show wCls _ _ _ _ _ _ _ _
  obtain rfl | rfl | rfl | rfl | rfl | rfl | rfl | rfl | rfl | rfl : n = 0 ∨ n = 1 ∨ n = 2 ∨ n = 3 ∨ n = 4 ∨ n = 5 ∨ n = 6 ∨ n = 7 ∨ n = 8 ∨ n = 9 := by omega
  · refine hit rfl ?_ rfl
    exact fun a ha => suite1 rfl upd_same rfl fun l t H3 e3 h1 h2 => ⟨_, rfl, k t l H3 ((ex.trans (Ex.new hd)).trans e3) h2 h1⟩
  · refine hit rfl ?_ rfl
    exact fun a ha => suite1 rfl upd_same rfl fun l t H3 e3 h1 h2 => ⟨_, rfl, k t l H3 ((ex.trans (Ex.new hd)).trans e3) h2 h1⟩
  · refine hit rfl ?_ rfl
    exact fun a ha => suite1 rfl upd_same rfl fun l t H3 e3 h1 h2 => ⟨_, rfl, k t l H3 ((ex.trans (Ex.new hd)).trans e3) h2 h1⟩
  · refine hit rfl ?_ rfl
    exact fun a ha => suite1 rfl upd_same rfl fun l t H3 e3 h1 h2 => ⟨_, rfl, k t l H3 ((ex.trans (Ex.new hd)).trans e3) h2 h1⟩
  · refine hit rfl ?_ rfl
    exact fun a ha => suite1 rfl upd_same rfl fun l t H3 e3 h1 h2 => ⟨_, rfl, k t l H3 ((ex.trans (Ex.new hd)).trans e3) h2 h1⟩
  · refine hit rfl ?_ rfl
    exact fun a ha => suite1 rfl upd_same rfl fun l t H3 e3 h1 h2 => ⟨_, rfl, k t l H3 ((ex.trans (Ex.new hd)).trans e3) h2 h1⟩
  · refine hit rfl ?_ rfl
    exact fun a ha => suite1 rfl upd_same rfl fun l t H3 e3 h1 h2 => ⟨_, rfl, k t l H3 ((ex.trans (Ex.new hd)).trans e3) h2 h1⟩
  · refine hit rfl ?_ rfl
    exact fun a ha => suite2 rfl upd_same rfl rfl fun l t H3 e3 h1 h2 => ⟨_, rfl, k t l H3 ((ex.trans (Ex.new hd)).trans e3) h2 h1⟩
  · refine hit rfl ?_ rfl
    exact fun a ha => suite2 rfl upd_same rfl rfl fun l t H3 e3 h1 h2 => ⟨_, rfl, k t l H3 ((ex.trans (Ex.new hd)).trans e3) h2 h1⟩
  · refine hit rfl ?_ rfl
    exact fun a ha => suite2 rfl upd_same rfl rfl fun l t H3 e3 h1 h2 => ⟨_, rfl, k t l H3 ((ex.trans (Ex.new hd)).trans e3) h2 h1⟩
def spBased : Sp := fun vs H Q _ => ∃ (n : Nat) (v u : V), vs = [.int n, v, u] ∧ n < 10 ∧ ∀ H', Ex H H' → Q (.bl true) H'
theorem scB : FnScope ["which", "one", "two"] ["which", "one", "two"] (defScope (top 40)) := ⟨rfl, rfl, rfl, by decide +kernel, rfl, by decide +kernel, by decide +kernel⟩
theorem ok_based (F : FnT K "_law_is_based" (top 40) f fd) (T : Rs P w K mg base) : FnOk P w K mg base CX0 4 f fd ["which", "one", "two"] spBased := by
  have sc := scB
  refine F.ok scB (fun vs H Q E h => ?_) (fun cdv A outer s H vs Q E hr h => ?_)
  · obtain ⟨_, _, _, rfl, _⟩ := h
    rfl
  refine ⟨_, PSs.nox (pss_cons (ps_try_only (tb := fun W => tDrop (tCallS (spRaise K) (WE W) (tCons (tVar 0) (tCons (tVar 1) (tCons (tVar 2) tNil))))) (ts := fun _ _ _ => tRet (tC (.bl true))) (Wout := fun _ _ _ _ => False) rfl rfl ⟨rfl, by decide, Or.inl T.gKind⟩ takes0
        (fun W pn xe tk _ => pss_one (ps_expr (by exact (pe_callHS T.h_law_raise hr tk (by exact (pa_cons (pv 0) (pa_cons (pv 1) (pa_cons (pv 2) pa_nil))))))))
        (fun a oe cls d pn hz hf => pss_one (ps_ret pe_bl)))
      (pss_one (ps_ret pe_bl))), ?_⟩
  obtain ⟨n, v, u, rfl, hn, k⟩ := h
  refine ⟨_, rfl, _, rfl, _, rfl, n, v, u, rfl, hn, fun d H2 e2 hd => ?_⟩
  refine ⟨true, ?_, fun _ a ha => ?_, fun z => nomatch z⟩
  · refine ((T.at_ (by omega)).exm T.eKind).trans ?_
    simp
  · exact k _ (e2.trans (Ex.new hd))
end
end K00
set_option maxHeartbeats 16000000
/-! A thing of any kind, wrapped. -/
namespace K00
open PySem PySem.Spec PyProof.Rows L2 Evl LL
abbrev VPr := V → Hp → Prop
theorem hand_ne {H : Hp} {l p : Addr} (h : Hand H l) (hp : H p = none) : p ≠ l := fun e => by
  obtain ⟨_, _, _, _, _, _, h1, _⟩ := h
  rw [e, h1] at hp
  cases hp
/-- a datum apart from l, within bounds -/
def Th (l : Addr) (n k : Nat) : VPr := fun v H => ∃ d, Dz l H v d ∧ Lim n k d
def Ths (l : Addr) (n k : Nat) (vs : List V) (H : Hp) : Prop := ∃ ds, Dzs l H vs ds ∧ ∀ d ∈ ds, Lim n k d
theorem Th.mono {l : Addr} {n k : Nat} {v : V} {H H' : Hp} (e : Exl l H H') (h : Th l n k v H) : Th l n k v H' := by
  obtain ⟨d, h1, h2⟩ := h
  exact ⟨d, h1.mono e, h2⟩
theorem Ths.mono {l : Addr} {n k : Nat} {vs : List V} {H H' : Hp} (e : Exl l H H') (h : Ths l n k vs H) : Ths l n k vs H' := by
  obtain ⟨d, h1, h2⟩ := h
  exact ⟨d, h1.mono e, h2⟩
theorem Th.up {l : Addr} {n k n' k' : Nat} {v : V} {H : Hp} (h : Th l n k v H) (h1 : n ≤ n') (h2 : k ≤ k') : Th l n' k' v H := by
  obtain ⟨d, a, b⟩ := h
  exact ⟨d, a, b.mono h1 h2⟩
theorem Ths.nil {l : Addr} {n k : Nat} {H : Hp} : Ths l n k [] H := ⟨[], .nil, nofun⟩
theorem Ths.cons {l : Addr} {n k : Nat} {v : V} {vs : List V} {H : Hp} (h : Th l n k v H) (hs : Ths l n k vs H) : Ths l n k (v :: vs) H := by
  obtain ⟨d, h1, h2⟩ := h
  obtain ⟨ds, h3, h4⟩ := hs
  exact ⟨d :: ds, .cons h1 h3, fun e he => (List.mem_cons.mp he).elim (fun q => by rw [q]; exact h2) (h4 e)⟩
theorem Ths.app {l : Addr} {n k : Nat} {H : Hp} {us : List V} (hs : Ths l n k us H) : ∀ {vs : List V}, Ths l n k vs H → Ths l n k (vs ++ us) H
  | [], _ => hs
  | v :: vs, h => by
    obtain ⟨ds, h1, h2⟩ := h
    cases h1 with
    | cons a b => exact .cons ⟨_, a, h2 _ List.mem_cons_self⟩ (Ths.app hs (vs := vs) ⟨_, b, fun d hd => h2 d (List.mem_cons_of_mem _ hd)⟩)
theorem Ths.mem {l : Addr} {n k : Nat} {H : Hp} {u : V} : ∀ {vs : List V}, Ths l n k vs H → u ∈ vs → Th l n k u H
  | [], _, hm => nomatch hm
  | v :: vs, h, hm => by
    obtain ⟨ds, h1, h2⟩ := h
    cases h1 with
    | cons a b =>
      rcases List.mem_cons.mp hm with e | e
      · rw [e]; exact ⟨_, a, h2 _ List.mem_cons_self⟩
      · exact Ths.mem (vs := vs) ⟨_, b, fun d hd => h2 d (List.mem_cons_of_mem _ hd)⟩ e
/-- what a reading comes to, the hand at l being drawn from on the way -/
def EvH (l : Addr) (te : TE) (σ : L2.St) (H : Hp) (R : VPr) : Prop := ∀ H1, Exl l H H1 → Hand H1 l → ∀ Q : VK, (∀ v H2, Exl l H1 H2 → Hand H2 l → R v H2 → Q v H2) → te σ H1 Q
def EvHA (l : Addr) (ta : TA) (σ : L2.St) (H : Hp) (n k m : Nat) : Prop := ∀ H1, Exl l H H1 → Hand H1 l → ∀ Q : List V → Hp → Prop, (∀ vs H2, Exl l H1 H2 → Hand H2 l → Ths l n k vs H2 → vs.length = m → Q vs H2) → ta σ H1 Q
/-- a list of things -/
def LS (l : Addr) (n k m : Nat) : VPr := fun v H => ∃ p xs, v = .ref p ∧ p ≠ l ∧ H p = some (.lst xs) ∧ Ths l n k xs H ∧ xs.length = m
theorem LS.mono {l : Addr} {n k m : Nat} {v : V} {H H' : Hp} (e : Exl l H H') (h : LS l n k m v H) : LS l n k m v H' := by
  obtain ⟨p, xs, h1, h2, h3, h4, h5⟩ := h
  exact ⟨p, xs, h1, h2, e _ _ h2 h3, h4.mono e, h5⟩
section
variable {K : PySem.W.Frag} {l : Addr} {σ : L2.St} {H : Hp} {ta tb te tk tv : TE} {tr : TA} {n k m i j : Nat} {v : V} {D : Ends} {tz : TS} {R : VPr}
theorem h_ev (h : ∀ H, Ev te σ H v) (d : PyData) (hd : ∀ H, Dz l H v d) (L : Lim n k d) : EvH l te σ H (Th l n k) := fun H1 e hh Q q => h H1 H1 (Ex.refl H1) Q fun H2 e2 => q v H2 (Exl.of e2) (Hand.mono e2 hh) ⟨d, hd H2, L⟩
theorem h_up (h : EvH l te σ H (Th l i j)) (h1 : i ≤ n) (h2 : j ≤ k) : EvH l te σ H (Th l n k) := fun H1 e hh Q q => h H1 e hh Q fun v H2 e2 hh2 r => q v H2 e2 hh2 (r.up h1 h2)
theorem h_non : EvH l (tC .non) σ H (Th l n (k + 4)) := h_ev (fun _ => ev_c) .none (fun _ => .non) (Lim.non.mono (by omega) (by omega))
theorem h_bl {b : Bool} : EvH l (tC (.bl b)) σ H (Th l n (k + 5)) := h_ev (fun _ => ev_c) (.bool b) (fun _ => .bl b) ((Lim.bool b).mono (by omega) (by omega))
theorem h_int {c : Int} (h : ∀ H, Ev te σ H (.int c)) (hj : 0 < j) (hc : c.natAbs < 10 ^ j) (hl : c.natAbs.log2 < 1920) (hk : j + 1 ≤ k) : EvH l te σ H (Th l n k) := h_ev h (.int c) (fun _ => .int c) ((Lim.int hj hc hl).mono (by omega) hk)
theorem h_i {c : Int} (hc : c.natAbs < 10 ^ 1 := by decide) (hl : c.natAbs.log2 < 1920 := by decide) (hk : 2 ≤ k := by decide) : EvH l (tC (.int c)) σ H (Th l n k) := h_int (fun _ => ev_c) (by decide : 0 < 1) hc hl hk
theorem h_str {x : Str} (h : (reprText x).length ≤ k := by decide +kernel) : EvH l (tC (.str x)) σ H (Th l n k) := h_ev (fun _ => ev_c) (.str x) (fun _ => .str x) ((Lim.str h).mono (by omega) (Nat.le_refl _))
theorem h_var {i : Nat} (h : σ[i]? = some (some v)) (t : Th l n k v H) : EvH l (tVar i) σ H (Th l n k) := fun H1 e hh Q q => ⟨v, h, q v H1 (Exl.refl l H1) hh (t.mono e)⟩
theorem hx_var {i : Nat} (h : σ[i]? = some (some v)) (t : LS l n k m v H) : EvH l (tVar i) σ H (LS l n k m) := fun H1 e hh Q q => ⟨v, h, q v H1 (Exl.refl l H1) hh (t.mono e)⟩
theorem ha_nil : EvHA l tNil σ H n k 0 := fun H1 e hh Q q => q [] H1 (Exl.refl l H1) hh .nil rfl
theorem ha_cons (h : EvH l te σ H (Th l n k)) (hs : EvHA l tr σ H n k m) : EvHA l (tCons te tr) σ H n k (m + 1) := fun H1 e hh Q q =>
  h H1 e hh _ fun v H2 e2 hh2 t => hs H2 (e.trans e2) hh2 _ fun vs H3 e3 hh3 ts lv => q (v :: vs) H3 (e2.trans e3) hh3 (.cons (t.mono e3) ts) (by simp [lv])
theorem h_tup (h : EvHA l tr σ H i j m) (hm : m ≤ 1000 := by decide) (hn : i + 1 ≤ n := by decide) (hk : (j + 2) * m + 3 ≤ k := by decide) : EvH l (tTup tr) σ H (Th l n k) := fun H1 e hh Q q =>
  h H1 e hh _ fun vs H2 e2 hh2 ts lv => ⟨sz_of (by omega), fun p hp => by
    obtain ⟨ds, h1, h2⟩ := ts
    have ne := hand_ne hh2 hp
    have ex := Exl.of (l := l) (Ex.new (o := .tup vs) hp)
    refine q _ _ (e2.trans ex) (Hand.mono (Ex.new hp) hh2) ⟨.tuple ds, .tup ne upd_same (h1.mono ex), (Lim.tuple h2).mono hn ?_⟩
    rw [← h1.length, lv]
    exact hk⟩
theorem hx_lst (h : EvHA l tr σ H n k m) (hm : m ≤ 1000 := by decide) : EvH l (tLst tr) σ H (LS l n k m) := fun H1 e hh Q q =>
  h H1 e hh _ fun vs H2 e2 hh2 ts lv => ⟨sz_of (by omega), fun p hp => by
    have ex := Exl.of (l := l) (Ex.new (o := .lst vs) hp)
    exact q _ _ (e2.trans ex) (Hand.mono (Ex.new hp) hh2) ⟨p, vs, rfl, hand_ne hh2 hp, upd_same, ts.mono ex, lv⟩⟩
theorem h_lst (h : EvHA l tr σ H i j m) (hm : m ≤ 1000 := by decide) (hn : i + 1 ≤ n := by decide) (hk : (j + 2) * m + 2 ≤ k := by decide) : EvH l (tLst tr) σ H (Th l n k) := fun H1 e hh Q q =>
  hx_lst h hm H1 e hh Q fun v H2 e2 hh2 ⟨p, xs, ev, ne, hp, ⟨ds, h1, h2⟩, lx⟩ => by
    subst ev
    refine q _ H2 e2 hh2 ⟨.list ds, .lst ne hp h1, (Lim.list h2).mono hn ?_⟩
    rw [← h1.length, lx]
    exact hk
theorem hx_cat {m2 : Nat} (h1 : EvH l ta σ H (LS l n k m)) (h2 : EvH l tb σ H (LS l n k m2)) (hm : m + m2 ≤ 1000 := by decide) : EvH l (tOp rCat ta tb) σ H (LS l n k (m + m2)) := fun H1 e hh Q q =>
  h1 H1 e hh _ fun x H2 e2 hh2 t1 => h2 H2 (e.trans e2) hh2 _ fun y H3 e3 hh3 ⟨r, us, ey, ny, hr, ss, ly⟩ => by
    obtain ⟨p, vs, ex, nx, hp, ts, lx⟩ := t1.mono e3
    refine ⟨p, r, vs, us, ex, ey, hp, hr, sz_of (by omega), fun z hz => ?_⟩
    have ex3 := Exl.of (l := l) (Ex.new (o := .lst (vs ++ us)) hz)
    exact q _ _ ((e2.trans e3).trans ex3) (Hand.mono (Ex.new hz) hh3) ⟨z, vs ++ us, rfl, hand_ne hh3 hz, upd_same, (Ths.app ss ts).mono ex3, by rw [List.length_append, lx, ly]⟩
theorem h_dnew : EvH l tDNewK σ H (Th l (n + 1) (k + 2)) := fun H1 e hh Q q => fun p hp => by
  have ex := Exl.of (l := l) (Ex.new (o := .dK []) hp)
  exact q _ _ ex (Hand.mono (Ex.new hp) hh) ⟨.dict [], .dic (kvs := []) (ds := []) (hand_ne hh hp) upd_same .nil, Lim.dict0.mono (by omega) (by omega)⟩
/-- {key: v} with an int or a text for a key, an old value -/
theorem h_disp {y : Key} (hk : ∀ H, Ev tk σ H (kV y)) (ly : Lim 0 i (kD y)) (hv : ∀ H, Ev tv σ H v) (tv0 : Th l n j v H) (h : i + j + 4 ≤ k) : EvH l (tDisp [(tk, tv)]) σ H (Th l (n + 1) k) := fun H1 e hh Q q => fun p hp => by
  have ne := hand_ne hh hp
  have e1 := Ex.new (o := .dK []) hp
  refine hk _ _ (Ex.refl _) _ fun H2 e2 => hv _ _ (Ex.refl _) _ fun H3 e3 => ?_
  have e4 := (e1.trans e2).trans e3
  refine ⟨(e2.trans e3) _ _ upd_same, [(y, v)], rfl, by show 1 ≤ 15; decide, ?_⟩
  have e5 : Ex H1 (upd H3 p (.dK (mergeK [] [(y, v)]))) := Ex.mut e4 hp
  obtain ⟨d, h1, h2⟩ := tv0
  refine q _ _ (Exl.of e5) (Hand.mono e5 hh) ⟨.dict [(kD y, d)], .dic (kvs := [(y, v)]) (ds := [d]) ne upd_same (.cons (h1.mono (e.trans (Exl.of e5))) .nil), ?_⟩
  exact (Lim.dict1 (ly.mono (Nat.zero_le _) (Nat.le_refl _)) h2).mono (Nat.le_refl _) h
/-- {(a, b): [c]} -/
theorem h_disp1 {a b c : Int} (ha : a.natAbs < 10 ∧ a.natAbs.log2 < 1920) (hb : b.natAbs < 10 ∧ b.natAbs.log2 < 1920) (hc : c.natAbs < 10 ∧ c.natAbs.log2 < 1920) : EvH l (tDisp1 (tTup (tCons (tC (.int a)) (tCons (tC (.int b)) tNil))) (tLst (tCons (tC (.int c)) tNil))) σ H (Th l (n + 2) (k + 30)) := fun H1 e hh Q q => fun p hp => by
  refine ⟨by show 2 ≤ sizeLine; decide, fun b1 hb1 => ⟨by show 1 ≤ sizeLine; decide, fun c1 hc1 => ?_⟩⟩
  have e1 := Ex.new (o := .dT []) hp
  have e2 := Ex.new (o := .tup [.int a, .int b]) hb1
  have e3 := Ex.new (o := .lst [.int c]) hc1
  refine ⟨b1, [.inl a, .inl b], rfl, e3 _ _ upd_same, e3 _ _ (e2 _ _ upd_same), ?_⟩
  have e5 : Ex H1 (upd (upd (upd (upd H1 p (.dT [])) b1 (.tup [.int a, .int b])) c1 (.lst [.int c])) p (.dT [([.inl a, .inl b], .ref c1)])) := Ex.mut ((e1.trans e2).trans e3) hp
  have cp : c1 ≠ p := fun z => by
    have := e2 p _ (upd_same (H := H1) (a := p) (o := .dT []))
    rw [z] at hc1
    rw [hc1] at this
    cases this
  have nc : c1 ≠ l := fun z => by
    have := hand_ne (Hand.mono (e1.trans e2) hh) hc1
    exact this z
  refine q _ _ (Exl.of e5) (Hand.mono e5 hh) ⟨.dict [(.tuple [.int a, .int b], .list [.int c])], .dit (kvs := [([.inl a, .inl b], .ref c1)]) (ds := [.list [.int c]]) (hand_ne hh hp) upd_same (.cons (.lst nc (by rw [upd_ne cp]; exact upd_same) (.cons (.int c) .nil)) .nil), ?_⟩
  have li : ∀ {z : Int}, z.natAbs < 10 ∧ z.natAbs.log2 < 1920 → Lim 0 2 (.int z) := fun h => Lim.int (k := 1) (by decide) h.1 h.2
  have l1 : Lim 1 11 (.tuple [.int a, .int b]) := (Lim.tuple (n := 0) (k := 2) (xs := [.int a, .int b]) fun x hx => by
    rcases List.mem_cons.mp hx with q | q
    · rw [q]; exact li ha
    · rw [List.mem_singleton.mp q]; exact li hb).mono (Nat.le_refl _) (by show (2 + 2) * 2 + 3 ≤ 11; decide)
  have l2 : Lim 1 6 (.list [.int c]) := (Lim.list (n := 0) (k := 2) (xs := [.int c]) fun x hx => by
    rw [List.mem_singleton.mp hx]; exact li hc).mono (Nat.le_refl _) (by show (2 + 2) * 1 + 2 ≤ 6; decide)
  exact (Lim.dict1 l1 l2).mono (by omega) (by omega)
/-- (a, b), each with bounds of its own -/
theorem h_pair (h1 : EvH l ta σ H (Th l n i)) (h2 : EvH l tb σ H (Th l n j)) (h : i + j + 4 ≤ k) : EvH l (tTup (tCons ta (tCons tb tNil))) σ H (Th l (n + 1) k) := fun H1 e hh Q q =>
  h1 H1 e hh _ fun x H2 e2 hh2 t1 => h2 H2 (e.trans e2) hh2 _ fun y H3 e3 hh3 t2 => ⟨by show 2 ≤ sizeLine; decide, fun p hp => by
    obtain ⟨d1, a1, b1⟩ := t1.mono e3
    obtain ⟨d2, a2, b2⟩ := t2
    have ex := Exl.of (l := l) (Ex.new (o := .tup [x, y]) hp)
    refine q _ _ ((e2.trans e3).trans ex) (Hand.mono (Ex.new hp) hh3) ⟨.tuple [d1, d2], .tup (hand_ne hh3 hp) upd_same (.cons (a1.mono ex) (.cons (a2.mono ex) .nil)), ?_⟩
    exact (Lim.pair b1 b2).mono (Nat.le_refl _) h⟩
def InI (n : Int) : VPr := fun v _ => ∃ f, v = .int f ∧ 0 ≤ f ∧ f < n
theorem h_draw {E : XK} {N : Int} (h0 : σ[0]? = some (some (.ref l))) (hn : ∀ H, Ev tb σ H (.int N)) (n1 : 1 ≤ N) (n2 : N < 1073741824) : EvH l (tCall spDraw [] E (tCons (tVar 0) (tCons tb tNil))) σ H (InI N) := fun H1 e hh Q q =>
  ⟨.ref l, h0, hn H1 H1 (Ex.refl H1) _ fun H2 e2 => ⟨l, N, rfl, n1, n2, Hand.mono e2 hh, fun f H' f0 f1 ex hh' => q _ H' ((Exl.of e2).trans ex) hh' ⟨f, rfl, f0, f1⟩⟩⟩
theorem log_small {n : Nat} (h : n < 2 ^ 30) : n.log2 < 1920 := by
  by_cases z : n = 0
  · rw [z]; decide
  · exact Nat.lt_of_lt_of_le ((Nat.log2_lt z).mpr h) (by decide)
theorem h_drawn (h : EvH l te σ H (InI (10 ^ 9))) (hk : 10 ≤ k) : EvH l te σ H (Th l n k) := fun H1 e hh Q q => h H1 e hh Q fun v H2 e2 hh2 ⟨f, ev, f0, f1⟩ => by
  subst ev
  have b1 : f.natAbs < 10 ^ 9 := by omega
  refine q _ H2 e2 hh2 ⟨.int f, .int f, (Lim.int (k := 9) (by decide) b1 ?_).mono (by omega) (by omega)⟩
  by_cases z : f.natAbs = 0
  · rw [z]; decide
  · exact Nat.lt_of_lt_of_le ((Nat.log2_lt z).mpr (show f.natAbs < 2 ^ 30 by omega)) (by decide)
theorem h_some {E : XK} (h0 : σ[0]? = some (some (.ref l))) (hl : EvH l tb σ H (LS l n k m)) (m1 : 1 ≤ m) (m2 : m ≤ 1000) : EvH l (tCall spSome [] E (tCons (tVar 0) (tCons tb tNil))) σ H (Th l n k) := fun H1 e hh Q q =>
  ⟨.ref l, h0, hl H1 e hh _ fun v H2 e2 hh2 ⟨p, xs, ev, ne, hp, ts, lx⟩ => ⟨l, p, xs, by rw [ev]; rfl, ne, hp, fun z => by subst z; simp at lx; omega, by omega, hh2, fun u H3 hu e3 hh3 => q u H3 (e2.trans e3) hh3 ((ts.mem hu).mono e3)⟩⟩
/-- one of some whole numbers -/
theorem h_someI {E : XK} {ns : List Int} {N : Int} (h0 : σ[0]? = some (some (.ref l))) (hl : ∀ H, EvL tb σ H (ns.map V.int)) (hn : ∀ z ∈ ns, 0 ≤ z ∧ z < N) (m1 : ns ≠ []) (m2 : ns.length ≤ 1000) : EvH l (tCall spSome [] E (tCons (tVar 0) (tCons tb tNil))) σ H (InI N) := fun H1 e hh Q q =>
  ⟨.ref l, h0, hl H1 H1 (Ex.refl H1) _ fun p H2 hp e2 h2 => ⟨l, p, ns.map V.int, rfl, hand_ne hh hp, h2, by simpa using m1, by simpa using m2, Hand.mono e2 hh, fun u H3 hu e3 hh3 => by
    obtain ⟨z, hz, rfl⟩ := List.mem_map.mp hu
    exact q _ H3 ((Exl.of e2).trans e3) hh3 ⟨z, rfl, hn z hz⟩⟩⟩
theorem h_ix (h : EvH l ta σ H (LS l n k m)) (hi : EvH l tb σ H (InI (m : Nat))) : EvH l (tOp (rIxL K) ta tb) σ H (Th l n k) := fun H1 e hh Q q =>
  h H1 e hh _ fun x H2 e2 hh2 t1 => hi H2 (e.trans e2) hh2 _ fun y H3 e3 hh3 ⟨f, ey, f0, f1⟩ => by
    obtain ⟨p, xs, ex, nx, hp, ts, lx⟩ := t1.mono e3
    obtain ⟨i, rfl⟩ : ∃ i : Nat, f = (i : Int) := ⟨f.toNat, by omega⟩
    have hj : i < xs.length := by omega
    have eq : xs[i]? = some xs[i] := by simp [hj]
    exact ⟨p, xs, i, xs[i], ex, ey, sq_of hp, atI_nat eq, q _ H3 (e2.trans e3) hh3 (ts.mem (List.getElem_mem hj))⟩
theorem q_asgH {i : Nat} (hh : Hand H l) (h : EvH l te σ H R) (k : ∀ v H1, Exl l H H1 → Hand H1 l → R v H1 → tz D (σ.set i (some v)) H1) : tSeq (tAsg te (gName i)) tz D σ H := h H (Exl.refl l H) hh _ k
theorem s_asgH {i : Nat} (hh : Hand H l) (h : EvH l te σ H R) (k : ∀ v H1, Exl l H H1 → Hand H1 l → R v H1 → D.nx (σ.set i (some v)) H1) : tAsg te (gName i) D σ H := h H (Exl.refl l H) hh _ k
end
def spThing : Sp := fun vs H Q _ => ∃ l, vs = [.ref l] ∧ Hand H l ∧ ∀ v H', Exl l H H' → Hand H' l → Th l 38 290 v H' → Q v H'
structure Ft (P : Program) (w : World) (K : PySem.W.Frag) (mg : Str → Option Value) (base : Heap) : Prop extends Fs P w K mg base where
  h_law_some : Has P w K mg base CX0 "_law_some" 2 ["hand", "things"] spSome
section
variable {P : Program} {w : World} {K : PySem.W.Frag} {mg : Str → Option Value} {base : Heap} {f : Addr} {fd : FuncData}
theorem scT : FnScope ["hand", "some", "thing", "turn"] ["hand"] (defScope (top 34)) := ⟨rfl, rfl, rfl, by decide +kernel, rfl, by decide +kernel, by decide +kernel⟩
theorem ok_thing (F : FnT K "_law_thing" (top 34) f fd) (T : Ft P w K mg base) : FnOk P w K mg base CX0 3 f fd ["hand"] spThing := by
  have sc := scT
  refine F.ok scT (fun vs H Q E h => ?_) (fun cdv A outer s H vs Q E hr h => ?_)
  · obtain ⟨l, rfl, _⟩ := h
    rfl
  refine ⟨_, PSs.nox (pss_cons (ps_set (i := 1) sc.nd rfl (Or.inl rfl) (pe_lst (pa_cons pe_non (pa_cons pe_bl (pa_cons pe_bl (pa_cons pe_int (pa_cons pe_int (pa_cons (pe_un un_neg pe_int) (pa_cons (pe_op op_sub (pe_op op_pow pe_int pe_int) pe_int) (pa_cons pe_str (pa_cons pe_str (pa_cons pe_str (pa_cons (pe_tup pa_nil) (pa_cons (pe_lst pa_nil) (pa_cons pe_dnewK (pa_cons (pe_tup (pa_cons pe_int (pa_cons pe_int pa_nil))) (pa_cons (pe_lst (pa_cons (pe_tup pa_nil) pa_nil)) (pa_cons (pe_tup (pa_cons pe_str (pa_cons pe_int pa_nil))) (pa_cons (pe_tup (pa_cons pe_str (pa_cons pe_int pa_nil))) pa_nil)))))))))))))))))))
      (pss_cons (ps_set (i := 2) sc.nd rfl (Or.inl rfl) (pe_callH T.h_law_some hr pass0 (pa_cons (pv 0) (pa_cons (pe_op op_cat (pv 1) (pe_lst (pa_cons (pe_disp (pps_cons pe_str pe_int pps_nil) (by rfl) (by rfl) (fun z => by cases z) (by decide)) (pa_cons (pe_disp1 (Nat.lt_of_le_of_lt (Nat.add_le_add_left (by decide : 1 ≤ 64) _) hr.units) (pe_tup (pa_cons pe_int (pa_cons pe_int pa_nil))) (pe_lst (pa_cons pe_int pa_nil))) (pa_cons (pe_callH T.h_law_draw hr pass0 (pa_cons (pv 0) (pa_cons (pe_op op_pow pe_int pe_int) pa_nil))) (pa_cons (pe_tup (pa_cons (pe_tup (pa_cons pe_str pa_nil)) (pa_cons pe_int pa_nil))) pa_nil)))))) pa_nil))))
      (pss_cons (ps_for PassesOwn.never rfl (pi_range1 (by rfl) T.range (pa_cons (pe_callH T.h_law_some hr pass0 (pa_cons (pv 0) (pa_cons (pe_lst (pa_cons pe_int (pa_cons pe_int (pa_cons pe_int (pa_cons pe_int (pa_cons pe_int (pa_cons pe_int pa_nil))))))) pa_nil))) pa_nil)) (pg_name (i := 3) sc.nd rfl (Or.inl rfl)) (pss_one (ps_set (i := 2) sc.nd rfl (Or.inl rfl) (pe_ix ix_list (pe_lst (pa_cons (pe_tup (pa_cons (pv 2) pa_nil)) (pa_cons (pe_lst (pa_cons (pv 2) pa_nil)) (pa_cons (pe_tup (pa_cons (pv 3) (pa_cons (pv 2) pa_nil))) (pa_cons (pe_disp (pps_cons (pv 3) (pv 2) pps_nil) (by rfl) (by rfl) (fun z => by cases z) (by decide)) pa_nil))))) (pe_callH T.h_law_draw hr pass0 (pa_cons (pv 0) (pa_cons pe_int pa_nil))) (fun _ _ => rfl)))))
      (pss_one (ps_ret (pv 2)))))), ?_⟩
  obtain ⟨l, rfl, hh, k⟩ := h
  refine q_asgH hh (by exact hx_lst (n := 2) (k := 38) (m := 17) (ha_cons h_non (ha_cons h_bl (ha_cons h_bl (ha_cons h_i (ha_cons h_i (ha_cons (h_int (c := -1) (fun _ => ev_un ev_c ru_neg) (by decide : 0 < 1) (by decide) (by decide) (by decide)) (ha_cons (h_int (c := 10 ^ 20 - 1) (fun _ => ev_op (ev_op ev_c ev_c (rv_I ⟨by decide, by decide, by decide⟩)) ev_c rv_I0) (by decide : 0 < 20) (by decide) (by decide) (by decide)) (ha_cons h_str (ha_cons h_str (ha_cons h_str (ha_cons (h_tup (i := 0) (j := 0) ha_nil) (ha_cons (h_lst (i := 0) (j := 0) ha_nil) (ha_cons h_dnew (ha_cons (h_tup (i := 0) (j := 2) (ha_cons h_i (ha_cons h_i ha_nil))) (ha_cons (h_lst (i := 1) (j := 3) (ha_cons (h_tup (i := 0) (j := 0) ha_nil) ha_nil)) (ha_cons (h_tup (i := 0) (j := 4) (ha_cons h_str (ha_cons h_i ha_nil))) (ha_cons (h_tup (i := 0) (j := 4) (ha_cons h_str (ha_cons h_i ha_nil))) ha_nil)))))))))))))))))) fun so H1 x1 hh1 t1 => ?_
  refine q_asgH hh1 (by exact h_some (n := 2) (k := 38) (m := 21) rfl (hx_cat (m := 17) (m2 := 4) (hx_var rfl t1) (hx_lst (ha_cons (h_disp (n := 1) (y := .inr "a") (i := 3) (j := 2) (v := .int 1) (fun _ => ev_c) (Lim.str (by decide +kernel)) (fun _ => ev_c) ⟨.int 1, .int 1, (Lim.int (k := 1) (by decide) (by decide) (by decide)).mono (by decide) (by decide)⟩ (by decide)) (ha_cons (h_disp1 (n := 0) (k := 8) (by decide) (by decide) (by decide)) (ha_cons (h_drawn (h_draw rfl (fun _ => ev_op ev_c ev_c (rv_I ⟨by decide, by decide, by decide⟩)) (by decide) (by decide)) (by decide)) (ha_cons (h_tup (i := 1) (j := 14) (ha_cons (h_tup (i := 0) (j := 7) (ha_cons h_str ha_nil)) (ha_cons h_i ha_nil))) ha_nil)))))) (by decide) (by decide)) fun th H2 x2 hh2 t2 => ?_
  show tSeq (tFor _ _ _) _ _ _ _
  refine h_someI (N := 37) (ns := [0, 0, 1, 2, 5, 36]) rfl (fun _ => el_lst (by exact ea_cons ev_c (ea_cons ev_c (ea_cons ev_c (ea_cons ev_c (ea_cons ev_c (ea_cons ev_c ea_nil)))))) (by decide)) (by decide) (by decide) (by decide) H2 (Exl.refl l H2) hh2 _ fun v H3 x3 hh3 hv => ?_
  obtain ⟨n, rfl, n0, n1⟩ := hv
  refine ⟨n, rfl, by omega, by omega, for_range (lo := 0) (n := n.toNat) (fun i σ' H' => ∃ u x, σ' = [some (.ref l), some so, some u, x] ∧ Exl l H H' ∧ Hand H' l ∧ Th l (2 + i) (38 + 7 * i) u H') ?_ ?_ ?_⟩
  · exact ⟨th, _, rfl, (x1.trans x2).trans x3, hh3, t2.mono x3⟩
  · rintro i σ' H' hi ⟨u, x, rfl, x4, hh4, t4⟩
    have hi2 : i < 37 := by omega
    have hc : (0 + (i : Int)).natAbs < 10 ^ 2 := by omega
    have it : EvH l (tVar 3) [some (.ref l), some so, some u, some (.int (0 + (i : Int)))] H' (Th l (2 + i) 3) := h_int (fun _ => ev_var rfl) (by decide : 0 < 2) hc (log_small (by omega)) (Nat.le_refl _)
    have ut : EvH l (tVar 2) [some (.ref l), some so, some u, some (.int (0 + (i : Int)))] H' (Th l (2 + i) (38 + 7 * i)) := h_var rfl t4
    refine s_asgH hh4 (by exact h_ix (n := 2 + (i + 1)) (k := 38 + 7 * (i + 1)) (m := 4) (hx_lst (ha_cons (h_tup (i := 2 + i) (j := 38 + 7 * i) (ha_cons ut ha_nil) (by decide) (by omega) (by omega)) (ha_cons (h_lst (i := 2 + i) (j := 38 + 7 * i) (ha_cons ut ha_nil) (by decide) (by omega) (by omega))
      (ha_cons (h_pair (i := 3) (j := 38 + 7 * i) (n := 2 + i) it ut (by omega)) (ha_cons (h_disp (n := 2 + i) (i := 3) (j := 38 + 7 * i) (y := .inl (0 + (i : Int))) (fun _ => ev_var rfl) (Lim.int (k := 2) (by decide) hc (log_small (by omega))) (fun _ => ev_var rfl) t4 (by omega)) ha_nil))))) (h_draw rfl (fun _ => ev_c) (by decide) (by decide))) fun u2 H5 x5 hh5 t5 => ?_
    exact ⟨u2, _, rfl, x4.trans x5, hh5, t5⟩
  · rintro σ' H' ⟨u, x, rfl, x4, hh4, t4⟩
    refine s_ret (ev_var rfl) fun H5 e5 => ?_
    exact k u H5 (x4.trans (Exl.of e5)) (Hand.mono e5 hh4) ((t4.mono (Exl.of e5)).up (by omega) (by omega))
end
end K00
set_option maxHeartbeats 16000000
/-! The law. -/
namespace K00
open PySem PySem.Spec PyProof.Rows L2 Evl LL
/-- repr of what stands apart from some one address -/
def rReprE : List V → Hp → VK → Prop := fun xs H Q => ∃ l, rRepr l xs H Q
theorem call_reprE {X : Cx} (y : Sys X.K) (hg : X.A.guards = some []) (hu : X.A.units + 64 < cLine) : CallR X (.builtin "repr") rReprE := by
  intro pins s σ H xs us Q I r h
  obtain ⟨l, h⟩ := h
  exact call_repr (l := l) y hg hu pins s σ H xs us Q I r h
theorem pg_tupK {X : Cx} {K : PySem.W.Frag} {es : List Expr} {k : Nat} {t : TGs} {n : Nat} {pos : Pos} (hK : X.K = K) (hc : X.calm = true) (h : PGs X es t) (hn : (assignEach es X.env).length = n := by rfl) (hst : (assignEach es X.env).findIdx? (·.1) = none := by rfl) : PG X (.Tuple es k pos) (gTup K n t) := by
  subst hK
  exact pg_tup hc h hn hst
structure Ls (P : Program) (w : World) (K : PySem.W.Frag) (mg : Str → Option Value) (base : Heap) : Prop extends Ks P w K mg base where
  sys : Sys K
  h_law_hand : Has P w K mg base CX0 "_law_hand" 1 ["script"] (spHand K)
  h_law_thing : Has P w K mg base CX0 "_law_thing" 3 ["hand"] spThing
  h_law_made : Has P w K mg base CX0 "_law_made" 3 ["one", "two"] (spMade K)
  h_law_kinds : Has P w K mg base CX0 "_law_kinds" 1 ["one"] (spKinds K)
  h_law_fields : Has P w K mg base CX0 "_law_fields" 1 ["errors"] (spFields K)
  h_law_caught : Has P w K mg base CX0 "_law_caught" 4 ["which", "one", "two"] spCaught
  h_law_is_based : Has P w K mg base CX0 "_law_is_based" 4 ["which", "one", "two"] spBased
section
variable {K : PySem.W.Frag} {σ : L2.St} {H : Hp} {a D kind l p : Addr} {fs : List (Str × V)} {i : Nat} {te ta tb tl : TE} {t : TT} {xs ys : List V} {v u : V} {E : XK}
theorem ev_isC {c : V} {cv : Value} {b : Bool} (hi : σ[i]? = some (some (.ref a))) (ha : ErrAt H a D fs) (T : ErrC K kind D) (kc : ClsV c cv) (e : PySem.W.kitOne K (.ref D) cv = some b) : Ev (tCB (rIsX K) (tCons (tVar i) (tCons (tC c) tNil))) σ H (.bl b) :=
  ev_cb (ea_cons (ev_var hi) (ea_cons ev_c ea_nil)) fun H1 e1 Q q => ⟨a, D, kind, fs, c, cv, b, rfl, ha.mono e1, T, kc, e, q H1 (Ex.refl H1)⟩
theorem el_kinds (hi : σ[i]? = some (some (.ref a))) (ha : ErrAt H a D fs) (T : ErrC K (He.ga K "KindError") D) : EvL (tCall (spKinds K) [] E (tCons (tVar i) tNil)) σ H (kindsOf K D) := fun H1 e Q q =>
  ⟨_, hi, a, D, fs, rfl, ha.mono e, T, fun p H' hp e' h => q p H' hp e' h⟩
theorem el_fields (hi : σ[i]? = some (some (.ref p))) (h : LstOf (errs.map (errR K v u)) (.ref p) H) : EvL (tCall (spFields K) [] E (tCons (tVar i) tNil)) σ H (fieldsOf v u) := fun H1 e Q q =>
  ⟨_, hi, v, u, .ref p, rfl, LstOf.mon errR.mons _ _ _ e h, fun p H' hp e' h => q p H' hp e' h⟩
/-- [.. for a, b in enumerate(list) if ..] -/
theorem el_lcEn {j1 j2 : Nat} {vs : List Nat} (f : Nat → Bool) (g : Nat → V) (hp : Ev tl σ H (.ref p)) (hx : H p = some (.lst xs)) (hz : xs.length ≤ 40000) (hw : ∀ x y, wipe (((wipe σ vs).set j1 (some x)).set j2 (some y)) vs = wipe σ vs)
    (ht : ∀ (i : Nat) (x : V) H1, Ex H H1 → xs[i]? = some x → EvT t (((wipe σ vs).set j1 (some (.int (i : Nat)))).set j2 (some x)) H1 (f i)) (he : ∀ (i : Nat) (x : V) H1, Ex H H1 → xs[i]? = some x → f i = true → Ev te (((wipe σ vs).set j1 (some (.int (i : Nat)))).set j2 (some x)) H1 (g i)) :
    EvL (tLc (iEnum K (tCons tl tNil)) (gTup K 2 (gCons (gName j1) (gCons (gName j2) gNil))) t te vs) σ H (given xs.length f g) := fun H0 e Q q => hp H0 e _ fun H1 e1 => ⟨p, xs, rfl, sq_of ((e.trans e1) _ _ hx), fun Dl hD =>
  lc_it (walk_enum (xs := xs)) (Cw H1 f g Dl) ⟨hD, Ex.new hD, upd_same⟩ (fun i H' _ pv => sq_of (pv.2.1 _ _ ((e.trans e1) _ _ hx))) (fun i x H' H'' hi pv y => by
    obtain ⟨T, x1, x2, rfl, hT, rfl, h1, h2⟩ := y
    cases h1
    obtain ⟨p1, p2, p3⟩ := pv
    have ex := Ex.new (o := .tup [.int (i : Nat), x2]) hT
    exact ⟨T, [.int (i : Nat), x2], rfl, st_of upd_same, rfl, _, _, rfl, _, _, rfl, rfl, hw _ _, cw_turn ⟨p1, p2.trans ex, ex _ _ p3⟩ (by omega) (ht i x2 H1 (e.trans e1) h2) (fun hf => he i x2 H1 (e.trans e1) h2 hf)⟩) (fun H' pv => q Dl H' (fresh_back e1 pv.1) (e1.trans pv.2.1) pv.2.2)⟩
theorem dz_new {d : PyData} (hl : Hand H l) (hp : H p = some (.lst xs)) (h0 : p ≠ l) {ds : List PyData} (h : Dzs l H xs ds) : Dz l H (.ref p) (.list ds) := .lst h0 hp h
/-- repr of a list that is made on the way -/
theorem ev_reprL {ds : List PyData} {n k : Nat} (hh : Hand H l) (h : EvL te σ H xs) (hd : Dzs l H xs ds) (L : Lim n k (.list ds)) (hn : n ≤ 62 := by decide) (hk : k ≤ 100000 := by decide) : Ev (tCB rReprE (tCons te tNil)) σ H (.str (PyData.list ds).shown) := fun H1 e Q q =>
  h H1 e _ fun p H2 hp e2 h2 => ⟨l, p, .list ds, rfl, .lst (hand_ne (Hand.mono e hh) hp) h2 (hd.mono (Exl.of (e.trans e2))), L.sh, Nat.le_trans L.dp hn, Nat.le_trans L.ln (sz_of hk), q H2 e2⟩
theorem et_same {x : Str} (ha : Ev ta σ H (.str x)) (hb : Ev tb σ H (.str x)) : EvT (tTest (tOp rNe ta tb)) σ H false := et_test (ev_is (ev_op ha hb (rv_ne rfl)) (by simp))
theorem el_rep {k : Nat} (h : Ev ta σ H (.ref p)) (hp : H p = some (.lst xs)) (hk : k ≤ 100) (hx : xs.length ≤ 100) : EvL (tOp rRep ta (tC (.int (k : Int)))) σ H (List.replicate k xs).flatten := fun H1 e Q q =>
  h H1 e _ fun H2 e2 => ⟨p, k, xs, rfl, rfl, e2 _ _ (e _ _ hp), by omega, by omega, by
    have : xs.length * k ≤ 100 * 100 := Nat.mul_le_mul hx hk
    show xs.length * k ≤ sizeLine
    exact sz_of (by omega), fun z hz => q z _ (fresh_back e2 hz) (e2.trans (Ex.new hz)) upd_same⟩
theorem el_repN {k : Nat} (h : EvL ta σ H xs) (hk : k ≤ 100) (hx : xs.length ≤ 100) : EvL (tOp rRep ta (tC (.int (k : Int)))) σ H (List.replicate k xs).flatten := fun H1 e Q q =>
  h H1 e _ fun p H2 hp e2 h2 => ⟨p, k, xs, rfl, rfl, h2, by omega, by omega, by
    have : xs.length * k ≤ 100 * 100 := Nat.mul_le_mul hx hk
    show xs.length * k ≤ sizeLine
    exact sz_of (by omega), fun z hz => q z _ (fresh_back e2 hz) (e2.trans (Ex.new hz)) upd_same⟩
theorem el_catN (h1 : EvL ta σ H xs) (h2 : EvL tb σ H ys) (hl : xs.length + ys.length ≤ 100000) : EvL (tOp rCat ta tb) σ H (xs ++ ys) := fun H1 e Q q =>
  h1 H1 e _ fun p H2 hp e2 h3 => h2 H2 (e.trans e2) _ fun r H3 hr e3 h4 => ⟨p, r, xs, ys, rfl, rfl, e3 _ _ h3, h4, sz_of hl, fun z hz => q z _ (fresh_back (e2.trans e3) hz) ((e2.trans e3).trans (Ex.new hz)) upd_same⟩
theorem x_if {t : TT} {R : VP} {b : Bool} (h : EvT t σ H b) (h1 : b = true → EvX ta σ H R) (h2 : b = false → EvX tb σ H R) : EvX (tIf t ta tb) σ H R := fun H1 e Q q => h H1 e _ fun H2 e2 => by
  cases b with
  | true =>
    show ta σ H2 Q
    exact h1 rfl H2 (e.trans e2) Q fun v H3 e3 => q v H3 (e2.trans e3)
  | false =>
    show tb σ H2 Q
    exact h2 rfl H2 (e.trans e2) Q fun v H3 e3 => q v H3 (e2.trans e3)
theorem ev_any {bs : List Bool} (h : EvL te σ H (bs.map V.bl)) : Ev (tCB (rAny K) (tCons te tNil)) σ H (.bl (bs.any id)) := fun H1 e Q q => h H1 e _ fun p H2 hp e2 h2 => ⟨p, bs, rfl, sq_of h2, q H2 e2⟩
theorem hand_tup (h : Hand H l) (hp : H p = some (.tup xs)) : p ≠ l := fun e => by
  obtain ⟨_, _, _, _, _, _, h1, _⟩ := h
  rw [e, h1] at hp
  cases hp
theorem hand_lst (h : Hand H l) (hp : H p = some (.lst xs)) (hx : xs.length ≤ 2) : p ≠ l := fun e => by
  obtain ⟨_, _, _, _, _, _, h1, _⟩ := h
  rw [e, h1] at hp
  cases hp
  simp at hx
theorem ev_reprT {ds : List PyData} {n k : Nat} (hh : Hand H l) (h : EvU te σ H xs) (hd : Dzs l H xs ds) (L : Lim n k (.tuple ds)) (hn : n ≤ 62 := by decide) (hk : k ≤ 100000 := by decide) : Ev (tCB rReprE (tCons te tNil)) σ H (.str (PyData.tuple ds).shown) := fun H1 e Q q =>
  h H1 e _ fun p H2 hp e2 h2 => ⟨l, p, .tuple ds, rfl, .tup (hand_ne (Hand.mono e hh) hp) h2 (hd.mono (Exl.of (e.trans e2))), L.sh, Nat.le_trans L.dp hn, Nat.le_trans L.ln (sz_of hk), q H2 e2⟩
theorem ev_caughtR {ds : List PyData} {n k : Nat} {m : Nat} {h4 : σ[4]? = some (some (.int (m : Nat)))} {h5 : σ[5]? = some (some v)} {h6 : σ[6]? = some (some u)} (hh : Hand H l) (hm : m < 10) (hd : Dzs l H (valsOf m v u) ds) (L : Lim n k (.tuple [.int (m : Nat), .list ds])) (hn : n ≤ 62 := by decide) (hk : k ≤ 100000 := by decide) :
    Ev (tCB rReprE (tCons (tCall spCaught [] E (tCons (tVar 4) (tCons (tVar 5) (tCons (tVar 6) tNil)))) tNil)) σ H (.str (PyData.tuple [.int (m : Nat), .list ds]).shown) := fun H1 e Q q =>
  ⟨_, h4, _, h5, _, h6, m, v, u, rfl, hm, fun p l' H2 e2 hp hl' => ⟨l, p, .tuple [.int (m : Nat), .list ds], rfl, .tup (hand_tup (Hand.mono (e.trans e2) hh) hp) hp (.cons (.int _) (.cons (.lst (hand_lst (Hand.mono (e.trans e2) hh) hl' (by unfold valsOf; split <;> simp)) hl' (hd.mono (Exl.of (e.trans e2)))) .nil)), L.sh, Nat.le_trans L.dp hn, Nat.le_trans L.ln (sz_of hk), q H2 e2⟩⟩
theorem dzs_vals {d1 d2 : PyData} (m : Nat) (h1 : Dz l H v d1) (h2 : Dz l H u d2) : Dzs l H (valsOf m v u) (if m < 7 then [d1] else [d1, d2]) := by
  unfold valsOf
  split
  · exact .cons h1 .nil
  · exact .cons h1 (.cons h2 .nil)
end
theorem kinds_at {P : Program} {w : World} {K : PySem.W.Frag} {mg : Str → Option Value} {base : Heap} (T : Ks P w K mg base) {i : Nat} (hi : i < 28) : kindsOf K (He.ga K (errAt i).1) = (List.range 28).map fun j => .bl (decide (j = i)) := by
  refine List.ext_getElem? fun j => ?_
  unfold kindsOf
  rw [List.getElem?_map, List.getElem?_map]
  by_cases hj : j < 28
  · have hl : errs.length = 28 := rfl
    have e1 : errs[j]? = some (errAt j) := by
      unfold errAt
      rw [List.getD_eq_getElem?_getD, List.getElem?_eq_getElem (by omega)]
      rfl
    rw [e1, List.getElem?_range hj]
    show some _ = some _
    congr 2
    have n0 : He.ga K (errAt j).1 ≠ He.ga K "KindError" := T.line_ne (line_at hj) (show (line K)[0]? = some (He.ga K "KindError") from rfl) (by omega)
    by_cases e : j = i
    · subst e
      simp
    · have n1 : He.ga K (errAt j).1 ≠ He.ga K (errAt i).1 := T.line_ne (line_at hj) (line_at hi) (by omega)
      simp [n0, n1, e]
  · rw [List.getElem?_eq_none (show errs.length ≤ j by show 28 ≤ j; omega), List.getElem?_eq_none (by simp; omega)]
    rfl
theorem kinds_base {P : Program} {w : World} {K : PySem.W.Frag} {mg : Str → Option Value} {base : Heap} (T : Ks P w K mg base) : kindsOf K (He.ga K "KindError") = (List.replicate 28 false).map V.bl := by
  refine List.ext_getElem? fun j => ?_
  unfold kindsOf
  rw [List.getElem?_map, List.getElem?_map]
  by_cases hj : j < 28
  · have hl : errs.length = 28 := rfl
    have e1 : errs[j]? = some (errAt j) := by
      unfold errAt
      rw [List.getD_eq_getElem?_getD, List.getElem?_eq_getElem (by omega)]
      rfl
    rw [e1, List.getElem?_replicate, if_pos hj]
    show some _ = some _
    congr 2
    have n0 : He.ga K (errAt j).1 ≠ He.ga K "KindError" := T.line_ne (line_at hj) (show (line K)[0]? = some (He.ga K "KindError") from rfl) (by omega)
    simp [n0]
  · rw [List.getElem?_eq_none (show errs.length ≤ j by show 28 ≤ j; omega), List.getElem?_eq_none (by simp; omega)]
    rfl
theorem one_eq : ∀ j : Fin 28, PyData.eqv (.list [.int (j.val : Int)]) (.list [.int (j.val : Int)]) = true ∧ SeqAt.shaped (.list [.int (j.val : Int)]) = true ∧ given 28 (fun i => decide (i = j.val)) (fun i => V.int (i : Nat)) = [V.int (j.val : Int)] := by decide +kernel
def spLaw (K : PySem.W.Frag) : Sp := fun vs H Q _ => ∃ (a : Addr) (ns : List Int), vs = [.ref a] ∧ SqL K H a (ns.map V.int) ∧ ns.length ≤ 63 ∧ ∀ H', Q (.bl true) H'
section
variable {P : Program} {w : World} {K : PySem.W.Frag} {mg : Str → Option Value} {base : Heap} {f : Addr} {fd : FuncData}
theorem scL : FnScope ["script", "hand", "turn", "base", "which", "one", "two", "errors", "both", "place", "error", "kinds", "due", "at", "flag"] ["script"] (defScope (top 41)) := ⟨rfl, rfl, rfl, by decide +kernel, rfl, by decide +kernel, by decide +kernel⟩
theorem ok_law (F : FnT K "law" (top 41) f fd) (T : Ls P w K mg base) : FnG P w K mg base CX0 5 f fd ["script"] (spLaw K) := by
  have sc := scL
  refine fnG_of F scL (fun {vs H Q E} h => ?_) (fun cdv A outer s H vs Q E hg hr h => ?_)
  · obtain ⟨a, ns, rfl, _⟩ := h
    rfl
  have hG := guards_deeper (env := envOfC "law" (defScope (top 41)) s.heap.objs.size f cdv) hg
  refine ⟨_, PSs.nox (pss_cons (ps_set (i := 1) sc.nd rfl (Or.inl rfl) (pe_callH T.h_law_hand hr pass0 (pa_cons (pv 0) pa_nil)))
      (pss_cons (ps_for PassesOwn.never rfl (pi_range1 (by rfl) T.range (pa_cons pe_int pa_nil)) (pg_name (i := 2) sc.nd rfl (Or.inl rfl)) (pss_cons (ps_par (i := 5) (j := 6) (by rfl) sc.nd rfl rfl (by decide) rfl rfl (pa_cons (pe_callH T.h_law_thing hr pass0 (pa_cons (pv 1) pa_nil)) (pa_cons (pe_callH T.h_law_thing hr pass0 (pa_cons (pv 1) pa_nil)) pa_nil)) (by rfl))
      (pss_cons (ps_par (i := 7) (j := 8) (by rfl) sc.nd rfl rfl (by decide) rfl rfl (pa_cons (pe_callH T.h_law_made hr pass0 (pa_cons (pv 5) (pa_cons (pv 6) pa_nil))) (pa_cons (pe_lst (pa_cons (pv 5) (pa_cons (pv 6) pa_nil))) pa_nil)) (by rfl))
      (pss_cons (ps_for PassesOwn.never rfl (pi_enum (by rfl) T.enumerate (pa_cons (pv 7) pa_nil)) (pg_tup rfl (pgs_cons (pg_name (i := 9) sc.nd rfl (Or.inl rfl)) (pgs_cons (pg_name (i := 10) sc.nd rfl (Or.inl rfl)) pgs_nil))) (pss_cons (ps_if (PW.pt (pw_or (pt_not (pt_val (pe_callB call_isX (by rfl) T.isinstance (by decide +kernel) (pa_cons (pv 10) (pa_cons (pe_ref T.gKind) pa_nil))))) (pw_or1 (pt_not (pt_val (pe_callB call_isX (by rfl) T.isinstance (by decide +kernel) (pa_cons (pv 10) (pa_cons (pe_bltn (v := .ty "ValueError") (u := .type "ValueError") (by rfl) T.ValueError (by decide +kernel) rfl) pa_nil)))))))) (pss_one (ps_ret pe_bl)) pss_nil)
      (pss_cons (ps_set (i := 11) sc.nd rfl (Or.inl rfl) (pe_callH T.h_law_kinds hr pass0 (pa_cons (pv 10) pa_nil)))
      (pss_one (ps_if (PW.pt (pw_or (pt_cmpR (op_neD hr.units) (pe_lc (own := [("at", 13), ("flag", 14)]) rfl sc.nd (pi_enum (by rfl) T.enumerate (pa_cons (pv 11) pa_nil)) (blkOk_by (N := ["script", "hand", "turn", "base", "which", "one", "two", "errors", "both", "place", "error", "kinds", "due", "at", "flag"]) (sc := defScope (top 41)) (by decide +kernel)) (fun _ _ _ _ _ => by exact (pg_tupK (K := K) (n := 2) rfl rfl (pgs_cons (pg_name (i := 13) sc.nd rfl (Or.inl rfl)) (pgs_cons (pg_name (i := 14) sc.nd rfl (Or.inl rfl)) pgs_nil)))) (fun _ _ _ _ _ => by exact (pts_one (pt_val (pv 14)))) (fun _ _ _ _ _ => by exact (pv 13))) (pe_lst (pa_cons (pv 9) pa_nil)) (nomark _)) (pw_or1 (pt_cmpR op_ne (pe_callB call_len (by rfl) T.len (by decide +kernel) (pa_cons (pv 11) pa_nil)) (pe_callB call_len (by rfl) T.len (by decide +kernel) (pa_cons (pv 7) pa_nil)) (nomark _))))) (pss_one (ps_ret pe_bl)) pss_nil)))))
      (pss_cons (ps_if (pt_cmpR op_ne (pe_callB (call_reprE T.sys hG hr.units) (by rfl) T.repr (by decide +kernel) (pa_cons (pe_callH T.h_law_fields hr pass0 (pa_cons (pv 7) pa_nil)) pa_nil)) (pe_callB (call_reprE T.sys hG hr.units) (by rfl) T.repr (by decide +kernel) (pa_cons (pe_op op_cat (pe_op op_rep (pe_lst (pa_cons (pv 5) pa_nil)) pe_int) (pe_op op_rep (pv 8) pe_int)) pa_nil)) (nomark _)) (pss_one (ps_ret pe_bl)) pss_nil)
      (pss_one (ps_for PassesOwn.never rfl (pi_range1 (by rfl) T.range (pa_cons pe_int pa_nil)) (pg_name (i := 4) sc.nd rfl (Or.inl rfl)) (pss_cons (ps_set (i := 12) sc.nd rfl (Or.inl rfl) (pe_ifExp (pt_cmpR op_lt (pv 4) pe_int (nomark _)) (pe_lst (pa_cons (pv 5) pa_nil)) (pv 8)))
      (pss_one (ps_if (PW.pt (pw_or (pt_cmpR op_ne (pe_callB (call_reprE T.sys hG hr.units) (by rfl) T.repr (by decide +kernel) (pa_cons (pe_callH T.h_law_caught hr pass0 (pa_cons (pv 4) (pa_cons (pv 5) (pa_cons (pv 6) pa_nil)))) pa_nil)) (pe_callB (call_reprE T.sys hG hr.units) (by rfl) T.repr (by decide +kernel) (pa_cons (pe_tup (pa_cons (pv 4) (pa_cons (pv 12) pa_nil))) pa_nil)) (nomark _)) (pw_or1 (pt_not (pt_val (pe_callH T.h_law_is_based hr pass0 (pa_cons (pv 4) (pa_cons (pv 5) (pa_cons (pv 6) pa_nil))))))))) (pss_one (ps_ret pe_bl)) pss_nil))))))))))
      (pss_cons (ps_set (i := 3) sc.nd rfl (Or.inl rfl) (pe_own0 T.eKind T.xKind (by rfl) T.gKind))
      (pss_one (ps_ret (pe_and (pe_callB call_isX (by rfl) T.isinstance (by decide +kernel) (pa_cons (pv 3) (pa_cons (pe_bltn (v := .ty "ValueError") (u := .type "ValueError") (by rfl) T.ValueError (by decide +kernel) rfl) pa_nil))) (pe_one (pe_not (pe_callB (cr_any rfl) (by rfl) T.any (by decide +kernel) (pa_cons (pe_callH T.h_law_kinds hr pass0 (pa_cons (pv 3) pa_nil)) pa_nil)))))))))), ?_⟩
  obtain ⟨a, ns, rfl, hS, hl, k⟩ := h
  refine ⟨_, rfl, a, ns, rfl, hS, hl, fun l H1 hl1 e1 hh1 => ?_⟩
  refine q_forR1 (n := 3) (ea_cons ev_c ea_nil) ⟨by decide, by decide⟩ (fun _ σ' H' => ∃ x2 x3 x4 x5 x6 x7 x8 x9 x10 x11 x12 x13 x14, σ' = [some (.ref a), some (.ref l), x2, x3, x4, x5, x6, x7, x8, x9, x10, x11, x12, x13, x14] ∧ Hand H' l) ?_ ?_ ?_
  · exact fun H2 e2 => ⟨_, _, _, _, _, _, _, _, _, _, _, _, _, rfl, Hand.mono e2 hh1⟩
  · rintro i σ' H' hi ⟨x2, x3, x4, x5, x6, x7, x8, x9, x10, x11, x12, x13, x14, rfl, hh⟩
    refine ⟨_, rfl, l, rfl, hh, fun v H2 z2 hh2 tv => ⟨_, rfl, l, rfl, hh2, fun u H3 z3 hh3 tu => ⟨v, u, rfl, ?_⟩⟩⟩
    have tv := tv.mono z3
    refine ⟨_, rfl, _, rfl, v, u, rfl, fun w1 H4 e4 le => ⟨_, rfl, _, rfl, by show 2 ≤ sizeLine; decide, fun b hb => ⟨w1, .ref b, rfl, ?_⟩⟩⟩
    obtain ⟨p, es, rfl, hp, hes⟩ := le
    have hh4 := Hand.mono e4 hh3
    have tv := tv.mono (Exl.of e4)
    have tu := tu.mono (Exl.of e4)
    have e5 := Ex.new (o := .lst [v, u]) hb
    have hh5 := Hand.mono e5 hh4
    have bl := hand_ne hh4 hb
    have le : LstOf (errs.map (errR K v u)) (.ref p) (upd H4 b (.lst [v, u])) := ⟨p, es, rfl, e5 _ _ hp, hes.mono errR.mons e5⟩
    have hp := e5 _ _ hp
    have hes := hes.mono errR.mons e5
    have hB : upd H4 b (.lst [v, u]) b = some (.lst [v, u]) := upd_same
    have tv := tv.mono (Exl.of e5)
    have tu := tu.mono (Exl.of e5)
    revert hh5 le hp hes hB tv tu
    clear e5 e4 hb
    generalize upd H4 b (.lst [v, u]) = H5
    intro hh5 le hp hes hB tv tu
    have nes : es.length = 28 := by
      have := hes.len
      rw [List.length_map] at this
      exact this.symm
    refine ⟨_, rfl, p, es, rfl, sq_of hp, for_it (walk_enum (xs := es)) (fun _ σ2 H2 => ∃ y9 y10 y11 y13 y14, σ2 = [some (.ref a), some (.ref l), some (.int i), x3, x4, some v, some u, some (.ref p), some (.ref b), y9, y10, y11, x12, y13, y14] ∧ Ex H5 H2) ?_ ?_ ?_ ?_⟩
    · exact ⟨_, _, _, _, _, rfl, Ex.refl _⟩
    · rintro j σ2 H6 _ ⟨y9, y10, y11, y13, y14, rfl, e6⟩
      exact sq_of (e6 _ _ hp)
    · rintro j x σ2 H6 H7 hj ⟨y9, y10, y11, y13, y14, rfl, e6⟩ ⟨T1, z1, z2, rfl, hT, rfl, q1, q2⟩
      cases q1
      have hj : j < 28 := by omega
      have ej : errs[j]? = some (errAt j) := by
        unfold errAt
        rw [List.getD_eq_getElem?_getD, List.getElem?_eq_getElem (show j < errs.length from hj)]
        rfl
      obtain ⟨aE, q3, hE⟩ := hes.err j (x := (errAt j).1) (j := (errAt j).2) ej
      have q2 : es[j]? = some z2 := q2
      rw [q3] at q2
      cases q2
      have TE := T.at_ hj
      refine ⟨T1, _, rfl, st_of upd_same, rfl, _, _, rfl, _, _, rfl, rfl, ?_⟩
      have e7 := e6.trans (Ex.new (o := .tup [.int (j : Nat), .ref aE]) hT)
      revert e7
      generalize upd H6 T1 (.tup [.int (j : Nat), .ref aE]) = H7
      intro e7
      refine q_when (b := false) (et_is (et_or (et_not (et_B (ev_isC rfl (hE.mono e7) TE (.own _) (TE.kit T.eKind)))) (fun _ => et_not (et_B (ev_isC rfl (hE.mono e7) TE (.ty _) TE.kitV)))) (by simp)) (fun z => nomatch z) (fun _ H8 e8 => ?_)
      refine q_asgL (el_kinds rfl (hE.mono (e7.trans e8)) TE) fun pk H9 n9 e9 hk => ?_
      rw [kinds_at T.toKs hj] at hk
      obtain ⟨o1, o2, o3⟩ := one_eq ⟨j, hj⟩
      have e10 := (e7.trans e8).trans e9
      refine s_when (b := false) (et_is (et_or (a := false) (b := false) (et_test (ev_opLL (el_lcEn (fun m => decide (m = j)) (fun m => .int (m : Nat)) (ev_var rfl) hk (by simp) (fun _ _ => rfl) (fun m x Hx ex hx => ?_) (fun m x Hx ex hx _ => ev_var rfl)) (el_lst (ea_cons (ev_var rfl) ea_nil) (by show 1 ≤ 100000; decide)) fun r1 r2 Hx h1 h2 ex => ?_))
        (fun _ => et_test (ev_is (ev_op (ev_cb (z := .int (28 : Nat)) (ea_cons (ev_var rfl) ea_nil) ?_) (ev_cb (z := .int (28 : Nat)) (ea_cons (ev_var rfl) ea_nil) ?_) (rv_ne rfl)) rfl))) rfl) (fun z => nomatch z) (fun _ H11 e11 => ⟨_, _, _, _, _, rfl, e10.trans e11⟩)
      · have : x = .bl (decide (m = j)) := by
          rw [List.getElem?_map] at hx
          obtain ⟨m2, h1, h2⟩ := Option.map_eq_some_iff.mp hx
          obtain ⟨h3, h4⟩ := List.getElem?_eq_some_iff.mp h1
          rw [List.getElem_range] at h4
          rw [← h2, h4]
        subst this
        exact et_B (ev_var rfl)
      · rw [List.length_map, List.length_range, o3] at h1
        refine rv_val fun H12 e12 Q2 q => ⟨.list [.int (j : Nat)], .list [.int (j : Nat)], .lst (sq_of (e12 _ _ h1)) (.cons (.int _) .nil), .lst (sq_of (e12 _ _ h2)) (.cons (.int _) .nil), o2, o2, ?_⟩
        rw [o1]
        exact q
      · exact fun H2 e Q q => ⟨_, _, rfl, .inl ⟨_, sq_of (e _ _ hk), by rw [List.length_map, List.length_range]⟩, q H2 (Ex.refl H2)⟩
      · exact fun H2 e Q q => ⟨_, _, rfl, .inl ⟨_, sq_of (e _ _ (e10 _ _ hp)), by rw [nes]⟩, q H2 (Ex.refl H2)⟩
    · rintro σ2 H6 ⟨y9, y10, y11, y13, y14, rfl, e6⟩
      have hh6 := Hand.mono e6 hh5
      have le := LstOf.mon errR.mons _ _ _ e6 le
      have hB := e6 _ _ hB
      have tv := tv.mono (Exl.of e6)
      have tu := tu.mono (Exl.of e6)
      obtain ⟨d1, a1, b1⟩ := tv
      obtain ⟨d2, a2, b2⟩ := tu
      have D : Dzs l H6 (fieldsOf v u) [d1, d1, d1, d1, d1, d1, d1, d1, d2, d1, d2, d1, d2] := .cons a1 (.cons a1 (.cons a1 (.cons a1 (.cons a1 (.cons a1 (.cons a1 (.cons a1 (.cons a2 (.cons a1 (.cons a2 (.cons a1 (.cons a2 .nil))))))))))))
      have L : Lim 39 4000 (.list [d1, d1, d1, d1, d1, d1, d1, d1, d2, d1, d2, d1, d2]) := (Lim.list (n := 38) (k := 290) (xs := [d1, d1, d1, d1, d1, d1, d1, d1, d2, d1, d2, d1, d2]) fun x hx => by
        simp only [List.mem_cons, List.not_mem_nil, or_false] at hx
        have : x = d1 ∨ x = d2 := by
          rcases hx with h | h | h | h | h | h | h | h | h | h | h | h | h <;> first | exact .inl h | exact .inr h
        rcases this with h | h
        · rw [h]; exact b1
        · rw [h]; exact b2).mono (Nat.le_refl _) (by show (290 + 2) * 13 + 2 ≤ 4000; decide)
      refine q_when (b := false) (et_same (ev_reprL hh6 (el_fields rfl le) D L) (ev_reprL hh6 (show EvL _ _ _ (fieldsOf v u) from el_catN (el_repN (k := 7) (el_lst (ea_cons (ev_var rfl) ea_nil) (by show 1 ≤ 100000; decide)) (by decide) (by show 1 ≤ 100; decide)) (el_rep (k := 3) (ev_var rfl) hB (by decide) (by show 2 ≤ 100; decide)) (by show 7 + 6 ≤ 100000; decide)) D L)) (fun z => nomatch z) (fun _ H7 e7 => ?_)
      have hh7 := Hand.mono e7 hh6
      have hB := e7 _ _ hB
      have a1 := a1.mono (Exl.of (l := l) e7)
      have a2 := a2.mono (Exl.of (l := l) e7)
      refine s_forR1 (n := 10) (ea_cons ev_c ea_nil) ⟨by decide, by decide⟩ (fun _ σ2 H2 => ∃ y4 y12, σ2 = [some (.ref a), some (.ref l), some (.int i), x3, y4, some v, some u, some (.ref p), some (.ref b), y9, y10, y11, y12, y13, y14] ∧ Ex H7 H2) ?_ ?_ ?_
      · exact fun H8 e8 => ⟨_, _, rfl, e8⟩
      · rintro m σ2 H8 hm ⟨y4, y12, rfl, e8⟩
        have hm10 : m < 10 := by omega
        have hh8 := Hand.mono e8 hh7
        have hB := e8 _ _ hB
        have a1 := a1.mono (Exl.of (l := l) e8)
        have a2 := a2.mono (Exl.of (l := l) e8)
        refine q_asgX (R := fun w H => ∃ q, w = .ref q ∧ q ≠ l ∧ H q = some (.lst (valsOf m v u))) (x_if (et_test (ev_op (ev_var rfl) ev_c rv_I0)) (fun hb => ?_) (fun hb => ?_)) ?_
        · have h7 : m < 7 := by
            have := of_decide_eq_true hb
            omega
          exact fun H1 e Q q => (el_lst (ea_cons (ev_var rfl) ea_nil) (by show 1 ≤ 100000; decide)) H1 e Q fun p H2 hp e2 h2 => q _ H2 e2 ⟨p, rfl, hand_ne (Hand.mono e hh8) hp, by unfold valsOf; rw [if_pos h7]; exact h2⟩
        · have h7 : ¬ m < 7 := by
            have := of_decide_eq_false hb
            omega
          exact fun H1 e Q q => ⟨_, rfl, q _ H1 (Ex.refl _) ⟨b, rfl, bl, by unfold valsOf; rw [if_neg h7]; exact e _ _ hB⟩⟩
        · rintro w1 H9 e9 ⟨q, rfl, ql, hq⟩
          have hh9 := Hand.mono e9 hh8
          have DV := dzs_vals m (a1.mono (Exl.of (l := l) e9)) (a2.mono (Exl.of (l := l) e9))
          have LV : Lim 39 600 (.list (if m < 7 then [d1] else [d1, d2])) := by
            split
            · exact (Lim.list (n := 38) (k := 290) (xs := [d1]) fun x hx => by rw [List.mem_singleton.mp hx]; exact b1).mono (Nat.le_refl _) (by show (290 + 2) * 1 + 2 ≤ 600; decide)
            · refine (Lim.list (n := 38) (k := 290) (xs := [d1, d2]) fun x hx => ?_).mono (Nat.le_refl _) (by show (290 + 2) * 2 + 2 ≤ 600; decide)
              rcases List.mem_cons.mp hx with h | h
              · rw [h]; exact b1
              · rw [List.mem_singleton.mp h]; exact b2
          revert DV LV
          generalize (if m < 7 then [d1] else [d1, d2]) = ds
          intro DV LV
          have LP : Lim 40 606 (.tuple [.int (m : Nat), .list ds]) := Lim.pair (n := 39) (i := 2) (j := 600) ((Lim.int (k := 1) (by decide) (by omega) (log_small (by omega))).mono (by decide) (Nat.le_refl _)) LV
          refine s_when (b := false) (et_is (et_or (a := false) (b := false) (et_same (ev_caughtR (h4 := rfl) (h5 := rfl) (h6 := rfl) hh9 hm10 DV LP) (ev_reprT hh9 (eu_tup (ea_cons (ev_var rfl) (ea_cons (ev_var rfl) ea_nil)) (by show 2 ≤ 100000; decide)) (.cons (.int _) (.cons (.lst ql hq DV) .nil)) LP))
            (fun _ => et_is (et_not (et_B (b := true) (fun H1 e Q q => ⟨_, rfl, _, rfl, _, rfl, m, v, u, rfl, hm10, fun H' e' => q H' e'⟩))) rfl)) rfl) (fun z => nomatch z) (fun _ H11 e11 => ⟨_, _, rfl, (e8.trans e9).trans e11⟩)
      · rintro σ2 H8 ⟨y4, y12, rfl, e8⟩
        exact ⟨_, _, _, _, _, _, _, _, _, _, _, _, _, rfl, Hand.mono e8 hh7⟩
  · rintro σ' H' ⟨x2, x3, x4, x5, x6, x7, x8, x9, x10, x11, x12, x13, x14, rfl, hh⟩
    refine fun aB haB => ?_
    have hE : ErrAt (upd H' aB (exo aB (He.ga K "KindError") none)) aB (He.ga K "KindError") [] := .inl ⟨rfl, upd_same⟩
    have hK := el_kinds (E := fun _ _ _ => False) (i := 3) (σ := [some (.ref a), some (.ref l), x2, some (.ref aB), x4, x5, x6, x7, x8, x9, x10, x11, x12, x13, x14]) rfl hE T.eKind
    rw [kinds_base T.toKs] at hK
    dsimp only [gName]
    exact s_ret (v := .bl true) (by exact ev_is (ev_andV (b := true) (ev_isC rfl hE T.eKind (.ty _) T.eKind.kitV) (fun _ => ev_is (ev_notV (ev_any hK)) rfl)) rfl) fun H2 _ => k H2
end
end K00
set_option maxHeartbeats 16000000
/-! The head's facts, given to the law. -/
namespace K00
open PySem PySem.Spec PyProof.Rows L2 Evl LL
theorem errB_ok {K : PySem.W.Frag} {kind C : Addr} (h : errB K kind C = true) : ErrC K kind C := by
  unfold errB at h
  obtain ⟨h1, h⟩ := Bool.and_eq_true_iff.mp h
  obtain ⟨h2, h⟩ := Bool.and_eq_true_iff.mp h
  obtain ⟨h3, h⟩ := Bool.and_eq_true_iff.mp h
  obtain ⟨h4, h⟩ := Bool.and_eq_true_iff.mp h
  obtain ⟨h5, h6⟩ := Bool.and_eq_true_iff.mp h
  refine ⟨?_, He.eqO_ok h2, He.eqO_ok h3, He.eqO_ok h4, He.eqO_ok h5, h6⟩
  split at h1
  · rename_i dd cd sl ho
    split at h1
    · rename_i C' bm k0 k1 k2 k3 n k5 hm hs
      simp only [Bool.and_eq_true, Bool.or_eq_true, beq_iff_eq, Bool.not_eq_true'] at h1
      obtain ⟨⟨⟨⟨rfl, rfl⟩, hdel⟩, hd⟩, ht⟩ := h1
      obtain ⟨nm, bs, mro, ns, qn, hdct, sn, sub, ab, col, del⟩ := cd
      dsimp only at hm hdel hd
      subst hm hdel hd
      have hsl : sl = #[k0, k1, k2, k3, some (.builtin "ValueError.__new__"), k5] := by
        obtain ⟨l⟩ := sl
        simp only at hs
        rw [hs]
      subst hsl
      exact ⟨nm, qn, ns, bs, bm, sn, sub, ab, col, dd, k0, k1, k2, k3, k5, ho, ht⟩
    · cases h1
  · cases h1
theorem fa_mem {K : PySem.W.Frag} (c : He.SaysD fa fn K) {f : He.Fa} (h : f ∈ fa) : f.ok K = true :=
  List.all_eq_true.mp (He.ba (show ((fa.all fun f => f.ok K) && fn.all fun d => d.ok K) = true from congrArg (fun z : He.AlD => z.1) c)).1 f h
theorem law_facts {P : Program} {w : World} {K : PySem.W.Frag} {h base : Heap} {mg : Str → Option Value} (X : K.In h) (G : h.Ns mainGlobals mg) (c : SaysX K) : Ls P w K mg base := by
  have c0 : (true, He.valD fn) = obsX K := Eq.symm c
  have cD : He.SaysD fa fn K := (congrArg (fun z : AlX => z.2) c0).symm
  obtain ⟨c1, c2⟩ := Bool.and_eq_true_iff.mp (show (errAll K && (match K.lookup sysModules with
    | some ⟨.type "dict", _, _, _⟩ => true
    | _ => false)) = true from (congrArg (fun z : AlX => z.1) c0).symm)
  have sys : Sys K := by
    split at c2
    · rename_i d dt sl ho
      exact ⟨_, ho, rfl⟩
    · cases c2
  unfold errAll at c1
  obtain ⟨e1, c1⟩ := Bool.and_eq_true_iff.mp c1
  obtain ⟨e2, c1⟩ := Bool.and_eq_true_iff.mp c1
  obtain ⟨e3, e4⟩ := Bool.and_eq_true_iff.mp c1
  have er : ∀ e ∈ errs, ErrC K (He.ga K "KindError") (He.ga K e.1) := fun e he => errB_ok (List.all_eq_true.mp e1 e he)
  have fr : Fr mg := ⟨He.free_ok X G (cD.fact 40 (f := .free "abs") rfl), He.free_ok X G (cD.fact 41 (f := .free "int") rfl), He.free_ok X G (cD.fact 42 (f := .free "len") rfl), He.free_ok X G (cD.fact 43 (f := .free "range") rfl), He.free_ok X G (cD.fact 44 (f := .free "isinstance") rfl), He.free_ok X G (cD.fact 45 (f := .free "ValueError") rfl), He.free_ok X G (cD.fact 46 (f := .free "repr") rfl), He.free_ok X G (cD.fact 47 (f := .free "enumerate") rfl), He.free_ok X G (cD.fact 48 (f := .free "any") rfl)⟩
  have kBadBook : Mk P w K mg base "BadBook" ["self", "part"] (spI1 K "part") := by
    obtain ⟨fd, F⟩ := cD.def_ 0 (d := dI "BadBook" "BadBook.__init__" 2) rfl
    have m := He.meth_ok (cD.fact 62 (f := .meth "BadBook" "__init__") rfl)
    exact ⟨_, fd, He.glo_ok X G (cD.fact 0 (f := .glo "BadBook") rfl), er (("BadBook" : Str), 2) (List.mem_of_getElem? (i := 0) rfl), m.at_, eq_of_beq m.fn, (F.bindsN fun _ _ _ _ _ _ us hl => match us, hl with | [_, _], _ => rfl), oiBadBook F⟩
  have kBadTable : Mk P w K mg base "BadTable" ["self", "part"] (spI1 K "part") := by
    obtain ⟨fd, F⟩ := cD.def_ 1 (d := dI "BadTable" "BadTable.__init__" 3) rfl
    have m := He.meth_ok (cD.fact 63 (f := .meth "BadTable" "__init__") rfl)
    exact ⟨_, fd, He.glo_ok X G (cD.fact 1 (f := .glo "BadTable") rfl), er (("BadTable" : Str), 3) (List.mem_of_getElem? (i := 1) rfl), m.at_, eq_of_beq m.fn, (F.bindsN fun _ _ _ _ _ _ us hl => match us, hl with | [_, _], _ => rfl), oiBadTable F⟩
  have kBadProgram : Mk P w K mg base "BadProgram" ["self", "part"] (spI1 K "part") := by
    obtain ⟨fd, F⟩ := cD.def_ 2 (d := dI "BadProgram" "BadProgram.__init__" 4) rfl
    have m := He.meth_ok (cD.fact 64 (f := .meth "BadProgram" "__init__") rfl)
    exact ⟨_, fd, He.glo_ok X G (cD.fact 2 (f := .glo "BadProgram") rfl), er (("BadProgram" : Str), 4) (List.mem_of_getElem? (i := 2) rfl), m.at_, eq_of_beq m.fn, (F.bindsN fun _ _ _ _ _ _ us hl => match us, hl with | [_, _], _ => rfl), oiBadProgram F⟩
  have kBadText : Mk P w K mg base "BadText" ["self", "place"] (spI1 K "place") := by
    obtain ⟨fd, F⟩ := cD.def_ 3 (d := dI "BadText" "BadText.__init__" 5) rfl
    have m := He.meth_ok (cD.fact 65 (f := .meth "BadText" "__init__") rfl)
    exact ⟨_, fd, He.glo_ok X G (cD.fact 3 (f := .glo "BadText") rfl), er (("BadText" : Str), 5) (List.mem_of_getElem? (i := 3) rfl), m.at_, eq_of_beq m.fn, (F.bindsN fun _ _ _ _ _ _ us hl => match us, hl with | [_, _], _ => rfl), oiBadText F⟩
  have kTooMany : Mk P w K mg base "TooMany" ["self", "most"] (spI1 K "most") := by
    obtain ⟨fd, F⟩ := cD.def_ 4 (d := dI "TooMany" "TooMany.__init__" 6) rfl
    have m := He.meth_ok (cD.fact 66 (f := .meth "TooMany" "__init__") rfl)
    exact ⟨_, fd, He.glo_ok X G (cD.fact 4 (f := .glo "TooMany") rfl), er (("TooMany" : Str), 6) (List.mem_of_getElem? (i := 4) rfl), m.at_, eq_of_beq m.fn, (F.bindsN fun _ _ _ _ _ _ us hl => match us, hl with | [_, _], _ => rfl), oiTooMany F⟩
  have kNoName : Mk P w K mg base "NoName" ["self", "name"] (spI1 K "name") := by
    obtain ⟨fd, F⟩ := cD.def_ 5 (d := dI "NoName" "NoName.__init__" 10) rfl
    have m := He.meth_ok (cD.fact 67 (f := .meth "NoName" "__init__") rfl)
    exact ⟨_, fd, He.glo_ok X G (cD.fact 5 (f := .glo "NoName") rfl), er (("NoName" : Str), 10) (List.mem_of_getElem? (i := 5) rfl), m.at_, eq_of_beq m.fn, (F.bindsN fun _ _ _ _ _ _ us hl => match us, hl with | [_, _], _ => rfl), oiNoName F⟩
  have kKept : Mk P w K mg base "Kept" ["self", "name"] (spI1 K "name") := by
    obtain ⟨fd, F⟩ := cD.def_ 6 (d := dI "Kept" "Kept.__init__" 11) rfl
    have m := He.meth_ok (cD.fact 68 (f := .meth "Kept" "__init__") rfl)
    exact ⟨_, fd, He.glo_ok X G (cD.fact 6 (f := .glo "Kept") rfl), er (("Kept" : Str), 11) (List.mem_of_getElem? (i := 6) rfl), m.at_, eq_of_beq m.fn, (F.bindsN fun _ _ _ _ _ _ us hl => match us, hl with | [_, _], _ => rfl), oiKept F⟩
  have kNeedsItself : Mk P w K mg base "NeedsItself" ["self", "family", "use"] (spI2 K) := by
    obtain ⟨fd, F⟩ := cD.def_ 7 (d := dI "NeedsItself" "NeedsItself.__init__" 7) rfl
    have m := He.meth_ok (cD.fact 69 (f := .meth "NeedsItself" "__init__") rfl)
    exact ⟨_, fd, He.glo_ok X G (cD.fact 7 (f := .glo "NeedsItself") rfl), er (("NeedsItself" : Str), 7) (List.mem_of_getElem? (i := 7) rfl), m.at_, eq_of_beq m.fn, (F.bindsN fun _ _ _ _ _ _ us hl => match us, hl with | [_, _, _], _ => rfl), oiNeedsItself F⟩
  have kUnclear : Mk P w K mg base "Unclear" ["self", "family", "use"] (spI2 K) := by
    obtain ⟨fd, F⟩ := cD.def_ 8 (d := dI "Unclear" "Unclear.__init__" 8) rfl
    have m := He.meth_ok (cD.fact 70 (f := .meth "Unclear" "__init__") rfl)
    exact ⟨_, fd, He.glo_ok X G (cD.fact 8 (f := .glo "Unclear") rfl), er (("Unclear" : Str), 8) (List.mem_of_getElem? (i := 8) rfl), m.at_, eq_of_beq m.fn, (F.bindsN fun _ _ _ _ _ _ us hl => match us, hl with | [_, _, _], _ => rfl), oiUnclear F⟩
  have kUnmet : Mk P w K mg base "Unmet" ["self", "family", "use"] (spI2 K) := by
    obtain ⟨fd, F⟩ := cD.def_ 9 (d := dI "Unmet" "Unmet.__init__" 9) rfl
    have m := He.meth_ok (cD.fact 71 (f := .meth "Unmet" "__init__") rfl)
    exact ⟨_, fd, He.glo_ok X G (cD.fact 9 (f := .glo "Unmet") rfl), er (("Unmet" : Str), 9) (List.mem_of_getElem? (i := 9) rfl), m.at_, eq_of_beq m.fn, (F.bindsN fun _ _ _ _ _ _ us hl => match us, hl with | [_, _, _], _ => rfl), oiUnmet F⟩
  have kNoSorts : Mk P w K mg base "NoSorts" ["self"] spI0 := by
    obtain ⟨fd, F⟩ := cD.def_ 10 (d := dI "NoSorts" "NoSorts.__init__" 12) rfl
    have m := He.meth_ok (cD.fact 72 (f := .meth "NoSorts" "__init__") rfl)
    exact ⟨_, fd, He.glo_ok X G (cD.fact 10 (f := .glo "NoSorts") rfl), er (("NoSorts" : Str), 12) (List.mem_of_getElem? (i := 10) rfl), m.at_, eq_of_beq m.fn, (F.bindsN fun _ _ _ _ _ _ us hl => match us, hl with | [_], _ => rfl), oiNoSorts F⟩
  have kNoUse : Mk P w K mg base "NoUse" ["self"] spI0 := by
    obtain ⟨fd, F⟩ := cD.def_ 11 (d := dI "NoUse" "NoUse.__init__" 13) rfl
    have m := He.meth_ok (cD.fact 73 (f := .meth "NoUse" "__init__") rfl)
    exact ⟨_, fd, He.glo_ok X G (cD.fact 11 (f := .glo "NoUse") rfl), er (("NoUse" : Str), 13) (List.mem_of_getElem? (i := 11) rfl), m.at_, eq_of_beq m.fn, (F.bindsN fun _ _ _ _ _ _ us hl => match us, hl with | [_], _ => rfl), oiNoUse F⟩
  have kNoFacts : Mk P w K mg base "NoFacts" ["self"] spI0 := by
    obtain ⟨fd, F⟩ := cD.def_ 12 (d := dI "NoFacts" "NoFacts.__init__" 14) rfl
    have m := He.meth_ok (cD.fact 74 (f := .meth "NoFacts" "__init__") rfl)
    exact ⟨_, fd, He.glo_ok X G (cD.fact 12 (f := .glo "NoFacts") rfl), er (("NoFacts" : Str), 14) (List.mem_of_getElem? (i := 12) rfl), m.at_, eq_of_beq m.fn, (F.bindsN fun _ _ _ _ _ _ us hl => match us, hl with | [_], _ => rfl), oiNoFacts F⟩
  have kNoRow : Mk P w K mg base "NoRow" ["self"] spI0 := by
    obtain ⟨fd, F⟩ := cD.def_ 13 (d := dI "NoRow" "NoRow.__init__" 15) rfl
    have m := He.meth_ok (cD.fact 75 (f := .meth "NoRow" "__init__") rfl)
    exact ⟨_, fd, He.glo_ok X G (cD.fact 13 (f := .glo "NoRow") rfl), er (("NoRow" : Str), 15) (List.mem_of_getElem? (i := 13) rfl), m.at_, eq_of_beq m.fn, (F.bindsN fun _ _ _ _ _ _ us hl => match us, hl with | [_], _ => rfl), oiNoRow F⟩
  have kNoLot : Mk P w K mg base "NoLot" ["self"] spI0 := by
    obtain ⟨fd, F⟩ := cD.def_ 14 (d := dI "NoLot" "NoLot.__init__" 16) rfl
    have m := He.meth_ok (cD.fact 76 (f := .meth "NoLot" "__init__") rfl)
    exact ⟨_, fd, He.glo_ok X G (cD.fact 14 (f := .glo "NoLot") rfl), er (("NoLot" : Str), 16) (List.mem_of_getElem? (i := 14) rfl), m.at_, eq_of_beq m.fn, (F.bindsN fun _ _ _ _ _ _ us hl => match us, hl with | [_], _ => rfl), oiNoLot F⟩
  have kNoWish : Mk P w K mg base "NoWish" ["self"] spI0 := by
    obtain ⟨fd, F⟩ := cD.def_ 15 (d := dI "NoWish" "NoWish.__init__" 17) rfl
    have m := He.meth_ok (cD.fact 77 (f := .meth "NoWish" "__init__") rfl)
    exact ⟨_, fd, He.glo_ok X G (cD.fact 15 (f := .glo "NoWish") rfl), er (("NoWish" : Str), 17) (List.mem_of_getElem? (i := 15) rfl), m.at_, eq_of_beq m.fn, (F.bindsN fun _ _ _ _ _ _ us hl => match us, hl with | [_], _ => rfl), oiNoWish F⟩
  have kNoTree : Mk P w K mg base "NoTree" ["self"] spI0 := by
    obtain ⟨fd, F⟩ := cD.def_ 16 (d := dI "NoTree" "NoTree.__init__" 18) rfl
    have m := He.meth_ok (cD.fact 78 (f := .meth "NoTree" "__init__") rfl)
    exact ⟨_, fd, He.glo_ok X G (cD.fact 16 (f := .glo "NoTree") rfl), er (("NoTree" : Str), 18) (List.mem_of_getElem? (i := 16) rfl), m.at_, eq_of_beq m.fn, (F.bindsN fun _ _ _ _ _ _ us hl => match us, hl with | [_], _ => rfl), oiNoTree F⟩
  have kNoFamily : Mk P w K mg base "NoFamily" ["self"] spI0 := by
    obtain ⟨fd, F⟩ := cD.def_ 17 (d := dI "NoFamily" "NoFamily.__init__" 19) rfl
    have m := He.meth_ok (cD.fact 79 (f := .meth "NoFamily" "__init__") rfl)
    exact ⟨_, fd, He.glo_ok X G (cD.fact 17 (f := .glo "NoFamily") rfl), er (("NoFamily" : Str), 19) (List.mem_of_getElem? (i := 17) rfl), m.at_, eq_of_beq m.fn, (F.bindsN fun _ _ _ _ _ _ us hl => match us, hl with | [_], _ => rfl), oiNoFamily F⟩
  have kNoMany : Mk P w K mg base "NoMany" ["self"] spI0 := by
    obtain ⟨fd, F⟩ := cD.def_ 18 (d := dI "NoMany" "NoMany.__init__" 20) rfl
    have m := He.meth_ok (cD.fact 80 (f := .meth "NoMany" "__init__") rfl)
    exact ⟨_, fd, He.glo_ok X G (cD.fact 18 (f := .glo "NoMany") rfl), er (("NoMany" : Str), 20) (List.mem_of_getElem? (i := 18) rfl), m.at_, eq_of_beq m.fn, (F.bindsN fun _ _ _ _ _ _ us hl => match us, hl with | [_], _ => rfl), oiNoMany F⟩
  have kNoTerm : Mk P w K mg base "NoTerm" ["self"] spI0 := by
    obtain ⟨fd, F⟩ := cD.def_ 19 (d := dI "NoTerm" "NoTerm.__init__" 21) rfl
    have m := He.meth_ok (cD.fact 81 (f := .meth "NoTerm" "__init__") rfl)
    exact ⟨_, fd, He.glo_ok X G (cD.fact 19 (f := .glo "NoTerm") rfl), er (("NoTerm" : Str), 21) (List.mem_of_getElem? (i := 19) rfl), m.at_, eq_of_beq m.fn, (F.bindsN fun _ _ _ _ _ _ us hl => match us, hl with | [_], _ => rfl), oiNoTerm F⟩
  have kNoStanding : Mk P w K mg base "NoStanding" ["self"] spI0 := by
    obtain ⟨fd, F⟩ := cD.def_ 20 (d := dI "NoStanding" "NoStanding.__init__" 22) rfl
    have m := He.meth_ok (cD.fact 82 (f := .meth "NoStanding" "__init__") rfl)
    exact ⟨_, fd, He.glo_ok X G (cD.fact 20 (f := .glo "NoStanding") rfl), er (("NoStanding" : Str), 22) (List.mem_of_getElem? (i := 20) rfl), m.at_, eq_of_beq m.fn, (F.bindsN fun _ _ _ _ _ _ us hl => match us, hl with | [_], _ => rfl), oiNoStanding F⟩
  have kNoLine : Mk P w K mg base "NoLine" ["self"] spI0 := by
    obtain ⟨fd, F⟩ := cD.def_ 21 (d := dI "NoLine" "NoLine.__init__" 23) rfl
    have m := He.meth_ok (cD.fact 83 (f := .meth "NoLine" "__init__") rfl)
    exact ⟨_, fd, He.glo_ok X G (cD.fact 21 (f := .glo "NoLine") rfl), er (("NoLine" : Str), 23) (List.mem_of_getElem? (i := 21) rfl), m.at_, eq_of_beq m.fn, (F.bindsN fun _ _ _ _ _ _ us hl => match us, hl with | [_], _ => rfl), oiNoLine F⟩
  have kNoText : Mk P w K mg base "NoText" ["self"] spI0 := by
    obtain ⟨fd, F⟩ := cD.def_ 22 (d := dI "NoText" "NoText.__init__" 24) rfl
    have m := He.meth_ok (cD.fact 84 (f := .meth "NoText" "__init__") rfl)
    exact ⟨_, fd, He.glo_ok X G (cD.fact 22 (f := .glo "NoText") rfl), er (("NoText" : Str), 24) (List.mem_of_getElem? (i := 22) rfl), m.at_, eq_of_beq m.fn, (F.bindsN fun _ _ _ _ _ _ us hl => match us, hl with | [_], _ => rfl), oiNoText F⟩
  have kNothingDone : Mk P w K mg base "NothingDone" ["self"] spI0 := by
    obtain ⟨fd, F⟩ := cD.def_ 23 (d := dI "NothingDone" "NothingDone.__init__" 25) rfl
    have m := He.meth_ok (cD.fact 85 (f := .meth "NothingDone" "__init__") rfl)
    exact ⟨_, fd, He.glo_ok X G (cD.fact 23 (f := .glo "NothingDone") rfl), er (("NothingDone" : Str), 25) (List.mem_of_getElem? (i := 23) rfl), m.at_, eq_of_beq m.fn, (F.bindsN fun _ _ _ _ _ _ us hl => match us, hl with | [_], _ => rfl), oiNothingDone F⟩
  have kNotClear : Mk P w K mg base "NotClear" ["self"] spI0 := by
    obtain ⟨fd, F⟩ := cD.def_ 24 (d := dI "NotClear" "NotClear.__init__" 26) rfl
    have m := He.meth_ok (cD.fact 86 (f := .meth "NotClear" "__init__") rfl)
    exact ⟨_, fd, He.glo_ok X G (cD.fact 24 (f := .glo "NotClear") rfl), er (("NotClear" : Str), 26) (List.mem_of_getElem? (i := 24) rfl), m.at_, eq_of_beq m.fn, (F.bindsN fun _ _ _ _ _ _ us hl => match us, hl with | [_], _ => rfl), oiNotClear F⟩
  have kNotRooted : Mk P w K mg base "NotRooted" ["self"] spI0 := by
    obtain ⟨fd, F⟩ := cD.def_ 25 (d := dI "NotRooted" "NotRooted.__init__" 27) rfl
    have m := He.meth_ok (cD.fact 87 (f := .meth "NotRooted" "__init__") rfl)
    exact ⟨_, fd, He.glo_ok X G (cD.fact 25 (f := .glo "NotRooted") rfl), er (("NotRooted" : Str), 27) (List.mem_of_getElem? (i := 25) rfl), m.at_, eq_of_beq m.fn, (F.bindsN fun _ _ _ _ _ _ us hl => match us, hl with | [_], _ => rfl), oiNotRooted F⟩
  have kOtherPlaces : Mk P w K mg base "OtherPlaces" ["self"] spI0 := by
    obtain ⟨fd, F⟩ := cD.def_ 26 (d := dI "OtherPlaces" "OtherPlaces.__init__" 28) rfl
    have m := He.meth_ok (cD.fact 88 (f := .meth "OtherPlaces" "__init__") rfl)
    exact ⟨_, fd, He.glo_ok X G (cD.fact 26 (f := .glo "OtherPlaces") rfl), er (("OtherPlaces" : Str), 28) (List.mem_of_getElem? (i := 26) rfl), m.at_, eq_of_beq m.fn, (F.bindsN fun _ _ _ _ _ _ us hl => match us, hl with | [_], _ => rfl), oiOtherPlaces F⟩
  have kTooGreat : Mk P w K mg base "TooGreat" ["self"] spI0 := by
    obtain ⟨fd, F⟩ := cD.def_ 27 (d := dI "TooGreat" "TooGreat.__init__" 29) rfl
    have m := He.meth_ok (cD.fact 89 (f := .meth "TooGreat" "__init__") rfl)
    exact ⟨_, fd, He.glo_ok X G (cD.fact 27 (f := .glo "TooGreat") rfl), er (("TooGreat" : Str), 29) (List.mem_of_getElem? (i := 27) rfl), m.at_, eq_of_beq m.fn, (F.bindsN fun _ _ _ _ _ _ us hl => match us, hl with | [_], _ => rfl), oiTooGreat F⟩
  have ks : Ks P w K mg base := { toFr := fr, gKind := He.glo_ok X G (cD.fact 28 (f := .glo "KindError") rfl), eKind := errB_ok e2, xKind := e4, nd := of_decide_eq_true e3, er := er, nat := fun p hp => He.noat_ok (fa_mem cD (show He.Fa.noat p.1 p.2 ∈ fa from List.mem_append_right _ (List.mem_append_left _ (List.mem_append_right _ (List.mem_map.mpr ⟨p, hp, rfl⟩))))), kBadBook := kBadBook, kBadTable := kBadTable, kBadProgram := kBadProgram, kBadText := kBadText, kTooMany := kTooMany, kNoName := kNoName, kKept := kKept, kNeedsItself := kNeedsItself, kUnclear := kUnclear, kUnmet := kUnmet, kNoSorts := kNoSorts, kNoUse := kNoUse, kNoFacts := kNoFacts, kNoRow := kNoRow, kNoLot := kNoLot, kNoWish := kNoWish, kNoTree := kNoTree, kNoFamily := kNoFamily, kNoMany := kNoMany, kNoTerm := kNoTerm, kNoStanding := kNoStanding, kNoLine := kNoLine, kNoText := kNoText, kNothingDone := kNothingDone, kNotClear := kNotClear, kNotRooted := kNotRooted, kOtherPlaces := kOtherPlaces, kTooGreat := kTooGreat }
  have h_law_hand : Has P w K mg base CX0 "_law_hand" 1 ["script"] (spHand K) := by
    obtain ⟨fd, F⟩ := cD.def_ 28 (d := dF "_law_hand" 31) rfl
    exact ⟨_, fd, He.glo_ok X G (cD.fact 29 (f := .glo "_law_hand") rfl), F.kp, (F.bindsN fun _ _ _ _ _ _ us hl => match us, hl with | [_], _ => rfl), ok_hand F fr⟩
  have h_law_draw : Has P w K mg base CX0 "_law_draw" 1 ["hand", "many"] (spDraw) := by
    obtain ⟨fd, F⟩ := cD.def_ 29 (d := dF "_law_draw" 32) rfl
    exact ⟨_, fd, He.glo_ok X G (cD.fact 30 (f := .glo "_law_draw") rfl), F.kp, (F.bindsN fun _ _ _ _ _ _ us hl => match us, hl with | [_, _], _ => rfl), ok_draw F fr⟩
  have h_law_some : Has P w K mg base CX0 "_law_some" 2 ["hand", "things"] (spSome) := by
    obtain ⟨fd, F⟩ := cD.def_ 30 (d := dF "_law_some" 33) rfl
    exact ⟨_, fd, He.glo_ok X G (cD.fact 31 (f := .glo "_law_some") rfl), F.kp, (F.bindsN fun _ _ _ _ _ _ us hl => match us, hl with | [_, _], _ => rfl), ok_some F ⟨fr, h_law_draw⟩⟩
  have h_law_thing : Has P w K mg base CX0 "_law_thing" 3 ["hand"] (spThing) := by
    obtain ⟨fd, F⟩ := cD.def_ 31 (d := dF "_law_thing" 34) rfl
    exact ⟨_, fd, He.glo_ok X G (cD.fact 32 (f := .glo "_law_thing") rfl), F.kp, (F.bindsN fun _ _ _ _ _ _ us hl => match us, hl with | [_], _ => rfl), ok_thing F ⟨⟨fr, h_law_draw⟩, h_law_some⟩⟩
  have h_law_made : Has P w K mg base CX0 "_law_made" 3 ["one", "two"] ((spMade K)) := by
    obtain ⟨fd, F⟩ := cD.def_ 32 (d := dF "_law_made" 35) rfl
    exact ⟨_, fd, He.glo_ok X G (cD.fact 33 (f := .glo "_law_made") rfl), F.kp, (F.bindsN fun _ _ _ _ _ _ us hl => match us, hl with | [_, _], _ => rfl), ok_made F ks⟩
  have h_law_kinds : Has P w K mg base CX0 "_law_kinds" 1 ["one"] ((spKinds K)) := by
    obtain ⟨fd, F⟩ := cD.def_ 33 (d := dF "_law_kinds" 36) rfl
    exact ⟨_, fd, He.glo_ok X G (cD.fact 34 (f := .glo "_law_kinds") rfl), F.kp, (F.bindsN fun _ _ _ _ _ _ us hl => match us, hl with | [_], _ => rfl), ok_kinds F ks⟩
  have h_law_fields : Has P w K mg base CX0 "_law_fields" 1 ["errors"] ((spFields K)) := by
    obtain ⟨fd, F⟩ := cD.def_ 34 (d := dF "_law_fields" 37) rfl
    exact ⟨_, fd, He.glo_ok X G (cD.fact 35 (f := .glo "_law_fields") rfl), F.kp, (F.bindsN fun _ _ _ _ _ _ us hl => match us, hl with | [_], _ => rfl), ok_fields F ks⟩
  have h_law_raise : Has P w K mg base (L2.CX P w) "_law_raise" 3 ["which", "one", "two"] ((spRaise K)) := by
    obtain ⟨fd, F⟩ := cD.def_ 35 (d := dF "_law_raise" 38) rfl
    exact ⟨_, fd, He.glo_ok X G (cD.fact 36 (f := .glo "_law_raise") rfl), F.kp, (F.bindsN fun _ _ _ _ _ _ us hl => match us, hl with | [_, _, _], _ => rfl), ok_raise F ks⟩
  have h_law_caught : Has P w K mg base CX0 "_law_caught" 4 ["which", "one", "two"] (spCaught) := by
    obtain ⟨fd, F⟩ := cD.def_ 36 (d := dF "_law_caught" 39) rfl
    exact ⟨_, fd, He.glo_ok X G (cD.fact 37 (f := .glo "_law_caught") rfl), F.kp, (F.bindsN fun _ _ _ _ _ _ us hl => match us, hl with | [_, _, _], _ => rfl), ok_caught F ⟨ks, h_law_raise⟩⟩
  have h_law_is_based : Has P w K mg base CX0 "_law_is_based" 4 ["which", "one", "two"] (spBased) := by
    obtain ⟨fd, F⟩ := cD.def_ 37 (d := dF "_law_is_based" 40) rfl
    exact ⟨_, fd, He.glo_ok X G (cD.fact 38 (f := .glo "_law_is_based") rfl), F.kp, (F.bindsN fun _ _ _ _ _ _ us hl => match us, hl with | [_, _, _], _ => rfl), ok_based F ⟨ks, h_law_raise⟩⟩
  exact { toKs := ks, sys := sys, h_law_hand := h_law_hand, h_law_thing := h_law_thing, h_law_made := h_law_made, h_law_kinds := h_law_kinds, h_law_fields := h_law_fields, h_law_caught := h_law_caught, h_law_is_based := h_law_is_based }
theorem facts {P : Program} {w : World} {K : PySem.W.Frag} {h : Heap} {mg : Str → Option Value} {f : Addr} (X : K.In h) (G : h.Ns mainGlobals mg) (hfa : mg ("law" : Str) = some (.ref f)) (c : SaysX K) :
    ∃ fd : FuncData, (∀ (s : Shared) (v : Value), BindsTo s fd ⟨[v], []⟩ [("script", v)]) ∧ ∀ base : Heap, K.In base → base.Ns mainGlobals mg → FnG P w K mg base CX0 5 f fd ["script"] (spLaw K) := by
  have cD : He.SaysD fa fn K := (congrArg (fun z : AlX => z.2) (show (true, He.valD fn) = obsX K from Eq.symm c)).symm
  obtain ⟨fd, F⟩ := cD.def_ 38 (d := dF "law" 41) rfl
  have e := hfa.symm.trans (He.glo_ok X G (cD.fact 39 (f := .glo "law") rfl))
  cases e
  have b := FunD.bindsA (ps := ["script"]) F fun _ _ _ _ _ _ us hl => match us, hl with | [_], _ => rfl
  exact ⟨fd, fun s v => b s [v] rfl, fun base _ _ => ok_law F (law_facts X G c)⟩
end K00
set_option maxHeartbeats 0
open PySem PySem.W PySem.Calls PyProof.Rows
theorem PySem.Challenge.cw_nearestkinds_k00_errors_keep_what_is_pas_holds : PySem.Challenge.rw_nearestkinds_k00_errors_keep_what_is_pas.Holds := by
  w_on; o_law
  refine HandSHeadRun.head_any (r := OpenLaw.row PySem.Challenge.rw_nearestkinds_k00_errors_keep_what_is_pas) (q := view (OpenLaw.row PySem.Challenge.rw_nearestkinds_k00_errors_keep_what_is_pas).prog [41]) (H := K00.hk) (ob := K00.ob) (M := 12000) (loose := K00.loose) (d := HandSHeadRun.topDef (OpenLaw.row PySem.Challenge.rw_nearestkinds_k00_errors_keep_what_is_pas).prog 41) (kwd := []) K00.ob_eq
    (by kernel_rfl) (fun s => by kernel_rfl) K00.run (by kernel_rfl) (by kernel_rfl) (by kernel_rfl) (by rfl) (by first | assumption | decide +kernel) (by decide +kernel) ⟨rfl, rfl, rfl, rfl, rfl, by decide +kernel⟩ ?hw ?hc
  case hw => w_witness2
  case hc =>
    refine LL.walk_ofG (l := PySem.Challenge.rw_nearestkinds_k00_errors_keep_what_is_pas) (n := 63) (k := 5) (x := "script") (CX := L2.CX0) rfl (by decide) (by kernel_rfl) ⟨rfl, by decide, by decide⟩ ?F (fun _ _ _ _ z => z)
    intro w mg fa h Y G hmg0
    obtain ⟨K, KX, c⟩ := Y
    have hmg : mg ("law" : PySem.Str) = some (.ref fa) := by
      have e : (HandSHeadRun.topDef (OpenLaw.row PySem.Challenge.rw_nearestkinds_k00_errors_keep_what_is_pas).prog 41).name = ("law" : PySem.Str) := by kernel_rfl
      rw [← e]
      exact hmg0
    obtain ⟨fd, hb, hF⟩ := K00.facts (P := (PySem.Challenge.rw_nearestkinds_k00_errors_keep_what_is_pas).prog) (w := w) KX G hmg c
    exact ⟨K, fd, K00.spLaw K, KX, hb, fun H a ns hl _ hS => ⟨a, ns, rfl, hS, hl, fun _ => rfl⟩, hF⟩
