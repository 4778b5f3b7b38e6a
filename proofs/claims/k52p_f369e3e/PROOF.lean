import PyProof.Rows.All
import Wide.All
import OpenK.AllK
import Wide.FinOn
import Lean
import KE.KNestM
import PyProof.EqAt
import PyProof.EqKinds
import PyProof.TupleCall
import PyProof.EnumMake
import PyProof.Draws
import KE.KDictList
import KE.KTryMore
import KE.KEqDict
import PyProof.ExcInit
import PyProof.InstStoreFacts
import KE.KSortTup
import PySem.Challenge.RW_fallcounts_k52_slabs_counted
set_option Elab.async false
set_option linter.all false
set_option maxRecDepth 100000
set_option maxHeartbeats 8000000
namespace L2.FE
open PySem PySem.W PySem.Calls
noncomputable def btGo : List Obj → BT → Nat → Option BT
  | [], t, _ => some t
  | o :: r, t, n => match ((t.ins n o).get n).isSome with
    | true => btGo r (t.ins n o) (n + 1)
    | false => none
theorem btGo_abs {life : Life} : ∀ {r : List Obj} {t T : BT} {n : Nat} {a : Array Obj}, btGo r t n = some T → absHeap t n life = ⟨a, life⟩ → absHeap T (n + r.length) life = ⟨a ++ r.toArray, life⟩
  | [], t, T, n, a, h, e => by cases h; simpa using e
  | o :: r, t, T, n, a, h, e => by
    unfold btGo at h
    cases g : ((t.ins n o).get n).isSome with
    | false => rw [g] at h; cases h
    | true =>
      rw [g] at h
      have x : absHeap (t.ins n o) (n + 1) life = ⟨a.push o, life⟩ := by rw [absHeap_ins g, e]; rfl
      have := btGo_abs h x
      rw [List.length_cons, show n + (r.length + 1) = n + 1 + r.length by omega, this]
      simp
noncomputable def topRT (p : Program) (w : World) (n₀ : Nat) (ann : Option Value) : Nat → SharedT → Thread → Option SharedT
  | 0, _, _ => none
  | n + 1, s, t => match through t with
    | true => some s
    | false => match PySem.W.Fast.tw6613529449190102663 n₀ ann t with
      | false => none
      | true => match PySem.W.Fast.tw10156331382660048174 (PySem.W.Fast.tw11892475500146522536 PySem.W.Fast.tw14364793385576792824) p w s t with
        | some (s', t') => topRT p w n₀ ann n s' t'
        | none => none
theorem topRT_of {p : Program} {w : World} {n₀ : Nat} {ann : Option Value} : ∀ {n : Nat} {s r : SharedT} {t : Thread}, topRT p w n₀ ann n s t = some r → topRun treeTable p w n₀ ann n s.abs t = some r.abs
  | 0, _, _, _, h => by cases h
  | n + 1, s, r, t, h => by
    unfold topRT at h
    unfold topRun
    cases ht : through t with
    | true => rw [ht] at h; cases h; rfl
    | false =>
      rw [ht, ← PySem.W.Fast.te6613529449190102663] at h
      cases hk : stepOk n₀ ann t with
      | false => simp only [hk] at h; cases h
      | true =>
        simp only [hk] at h
        rw [← PySem.W.Fast.te10156331382660048174, ← PySem.W.Fast.te11892475500146522536, ← PySem.W.Fast.te14364793385576792824] at h
        cases hs : stepT (denote treeTable) p w s t with
        | none => rw [hs] at h; cases h
        | some x => obtain ⟨s₂, t₂⟩ := x; rw [hs] at h; rw [stepT_spec hs]; exact topRT_of h
noncomputable def topFT (p : Program) (w : World) (N : Nat) (os : OsState) : Option SharedT :=
  match (boot_heap w.params).isNs mainGlobals with
  | true => (btGo (boot_heap w.params).objs.toList .nil 0).bind fun T => topRT p w (boot_heap w.params).objs.size ((boot_heap w.params).nsMap mainGlobals (Str.ofString "__annotations__")) N ⟨T, (boot_heap w.params).objs.size, (boot_heap w.params).life, #[], boot_drawn, boot_toks, os⟩ (topStub p)
  | false => none
noncomputable def topLT (p : Program) (w : World) (s₁ : Shared) : Bool := staticsOk (PySem.W.Fast.tw5923862056798008813 p.main.body) (boot_heap w.params) s₁.heap && namesBound p s₁.heap && gensDone s₁ && laidKept (boot_heap w.params) s₁.heap
theorem left_fast {p q : Program} {loose : List Str} {Xt : Shared → Bool} {α : Type} {Yf : Shared → α} {Ya : World → α} {N : Nat} (hN : Nat.ble 600 N = true) (e : opening p = plainProg p.main.scope.names) (f : ∀ s, fenceModules? p s = some s)
    (h1 : ∀ (w : World) (os : OsState), (topFT p w N os).map (fun s => topLT p w s.abs) = some true)
    (h2 : ∀ (w : World) (os : OsState), (topFT p w N os).map (fun s => PySem.W.Fast.tw4187177175401517315 q loose (PySem.W.Fast.tw5923862056798008813 p.main.body) Xt true s.abs) = some (openGood q loose))
    (h3 : ∀ (w : World) (os : OsState), (topFT p w N os).map (fun s => Yf s.abs) = some (Ya w)) : LeftO p q loose Xt Yf Ya N := fun w => by
  obtain ⟨s, hs, e'⟩ := Option.map_eq_some_iff.mp (boot_open e hN f w)
  obtain ⟨H, gs, d, k, os⟩ := s
  obtain ⟨rfl, rfl, rfl, rfl⟩ : H = boot_heap w.params ∧ gs = _ ∧ d = boot_drawn ∧ k = boot_toks := by simpa using e'
  obtain ⟨r, hr, l1⟩ := Option.map_eq_some_iff.mp (h1 w os)
  obtain ⟨r2, hr2, l2⟩ := Option.map_eq_some_iff.mp (h2 w os)
  obtain ⟨r3, hr3, l3⟩ := Option.map_eq_some_iff.mp (h3 w os)
  obtain rfl : r = r2 := Option.some.inj (hr.symm.trans hr2)
  obtain rfl : r = r3 := Option.some.inj (hr.symm.trans hr3)
  unfold topLT at l1
  rw [← PySem.W.Fast.te5923862056798008813] at l1
  rw [← PySem.W.Fast.te4187177175401517315, ← PySem.W.Fast.te5923862056798008813] at l2
  unfold topFT at hr
  cases hn : (boot_heap w.params).isNs mainGlobals with
  | false => rw [hn] at hr; cases hr
  | true =>
    rw [hn] at hr
    obtain ⟨T, hT, hr⟩ := Option.bind_eq_some_iff.mp hr
    have z := btGo_abs (life := (boot_heap w.params).life) (n := 0) (a := #[]) hT rfl
    have z' : absHeap T (boot_heap w.params).objs.size (boot_heap w.params).life = boot_heap w.params := by
      rw [Nat.zero_add, Array.length_toList] at z
      rw [z]
      simp
    have hr := topRT_of hr
    have st : (SharedT.mk T (boot_heap w.params).objs.size (boot_heap w.params).life #[] boot_drawn boot_toks os).abs = ⟨boot_heap w.params, #[], boot_drawn, boot_toks, os⟩ := by
      show Shared.mk _ _ _ _ _ = _
      rw [z']
    rw [st] at hr
    unfold openEnds
    rw [hs]
    show Option.map _ (topFrom treeTable p w N _) = _
    have t : topFrom treeTable p w N ⟨boot_heap w.params, #[], boot_drawn, boot_toks, os⟩ = some r.abs := by
      unfold topFrom
      dsimp only
      rw [hn]
      rw [hr]
      show (match staticsOk (importedModules p.main.body) (boot_heap w.params) r.abs.heap && namesBound p r.abs.heap && gensDone r.abs && laidKept (boot_heap w.params) r.abs.heap with | true => _ | false => _) = _
      rw [l1]
    rw [t]
    show some (openSeen q loose (importedModules p.main.body) Xt true r.abs, Yf r.abs) = _
    rw [l2, l3]
noncomputable def viewOf (p : Program) (keep : List Nat) : Program := { p with main := { p.main with body := keep.filterMap fun i => p.main.body[i]? } }
end L2.FE
section
open PySem PySem.W PyProof.Rows
noncomputable def FC.Q : Program := L2.FE.viewOf PySem.Challenge.pw_fallcounts_k52_slabs_counted [1,2,3,4,5,6,7,8,10,11,12,14,15,17,18,19,20,21,22,24,25,26,27,28,29,30,31,32,33,34,35]
theorem FC.look1 : ∀ (w : World) (os : OsState), (L2.FE.topFT PySem.Challenge.pw_fallcounts_k52_slabs_counted w 4970 os).map (fun s => L2.FE.topLT PySem.Challenge.pw_fallcounts_k52_slabs_counted w s.abs) = some true := fun w os => by kernel_rfl
theorem FC.look2 : ∀ (w : World) (os : OsState), (L2.FE.topFT PySem.Challenge.pw_fallcounts_k52_slabs_counted w 4970 os).map (fun s => PySem.W.Fast.tw4187177175401517315 FC.Q [] (PySem.W.Fast.tw5923862056798008813 PySem.Challenge.pw_fallcounts_k52_slabs_counted.main.body) (fun s => xlAt FC.Q [] s && recOk (RowW.records (OpenRow.toRowW (OpenLaw.row PySem.Challenge.rw_fallcounts_k52_slabs_counted))) s) true s.abs) = some (openGood FC.Q []) := fun w os => by kernel_rfl
end
namespace L2
open PySem PySem.Spec PyProof.Rows
noncomputable abbrev Key := Sum Int Str
noncomputable def keyIs : Key → Value → Bool
  | .inl k, v => Value.isInt k v
  | .inr x, v => Value.isStrOf x v
noncomputable def keyH (w : World) : Key → Int
  | .inl k => hashInt k
  | .inr x => hashStr w x
theorem keyIs_shape : ∀ {k : Key} {v : Value}, keyIs k v = true → (∃ i t, k = Sum.inl i ∧ v = Value.int i t) ∨ (∃ x t, k = Sum.inr x ∧ v = Value.str x t)
  | .inl i, v, h => by
    obtain ⟨t, e⟩ := Value.isInt_shape (k := i) (v := v) h
    exact .inl ⟨i, t, rfl, e⟩
  | .inr x, v, h => by
    obtain ⟨t, e⟩ := Value.isStrOf_shape (x := x) (v := v) h
    exact .inr ⟨x, t, rfl, e⟩
theorem key_ll (a b : Int) : decide ((Sum.inl a : Key) = Sum.inl b) = (a == b) := by
  by_cases e : a = b
  · subst e; simp
  · have h : ¬ (Sum.inl a : Key) = Sum.inl b := fun q => e (Sum.inl.inj q)
    rw [decide_eq_false h]
    exact (beq_eq_false_iff_ne.mpr e).symm
theorem key_rr (a b : Str) : decide ((Sum.inr a : Key) = Sum.inr b) = decide (a = b) := by
  by_cases e : a = b
  · subst e; simp
  · have h : ¬ (Sum.inr a : Key) = Sum.inr b := fun q => e (Sum.inr.inj q)
    rw [decide_eq_false h, decide_eq_false e]
theorem key_lr (a : Int) (b : Str) : decide ((Sum.inl a : Key) = Sum.inr b) = false := decide_eq_false (fun q => nomatch q)
theorem key_rl (a : Str) (b : Int) : decide ((Sum.inr a : Key) = Sum.inl b) = false := decide_eq_false (fun q => nomatch q)
noncomputable def mixKind (prog : Program) (w : World) : PySem.KeyKind prog w Key where
  is := keyIs
  hash := keyH w
  inj := fun v a b ha hb => by
    rcases keyIs_shape ha with ⟨i, t, rfl, rfl⟩ | ⟨x, t, rfl, rfl⟩
    · rcases keyIs_shape hb with ⟨j, u, rfl, e⟩ | ⟨y, u, rfl, e⟩
      · injection e with e1 _; rw [e1]
      · exact nomatch e
    · rcases keyIs_shape hb with ⟨j, u, rfl, e⟩ | ⟨y, u, rfl, e⟩
      · exact nomatch e
      · injection e with e1 _; rw [e1]
  byValue := fun k v h => by
    rcases keyIs_shape h with ⟨i, t, rfl, rfl⟩ | ⟨x, t, rfl, rfl⟩ <;> rfl
  pyHash := fun hv h => by
    rcases keyIs_shape hv with ⟨i, t, rfl, rfl⟩ | ⟨x, t, rfl, rfl⟩
    · exact wpAny_pyHash_int h
    · exact wpAny_pyHash_str h
  eqBool := fun hu hv h => by
    rcases keyIs_shape hu with ⟨i, t, rfl, rfl⟩ | ⟨x, t, rfl, rfl⟩
    · rcases keyIs_shape hv with ⟨j, u, rfl, rfl⟩ | ⟨y, u, rfl, rfl⟩
      · rw [key_ll] at h; exact wpAny_eqBool_int h
      · rw [key_lr] at h; exact SeqAt.EqAt.int_str i t y u _ _ _ _ h
    · rcases keyIs_shape hv with ⟨j, u, rfl, rfl⟩ | ⟨y, u, rfl, rfl⟩
      · rw [key_rl] at h; exact SeqAt.EqAt.str_int x t j u _ _ _ _ h
      · rw [key_rr] at h; exact wpAny_eqBool_str h
  «strs» := fun k x t v h => by
    rcases keyIs_shape h with ⟨i, u, rfl, e⟩ | ⟨y, u, rfl, e⟩
    · exact nomatch e
    · injection e with e1 _
      subst e1
      cases v <;> rfl
end L2
namespace L2
open PySem PySem.Spec PyProof.Rows
inductive V where
  | non | bl (b : Bool) | int (i : Int) | str (x : Str) | byt (b : Array UInt8) | flt (b : UInt64) | ref (a : Addr) | ty (n : String)
  deriving DecidableEq
noncomputable def RelV : V → Value → Prop
  | .non, u => u = Value.none
  | .bl b, u => u = Value.bool b
  | .int i, u => ∃ t, u = Value.int i t
  | .str x, u => ∃ t, u = Value.str x t
  | .byt b, u => ∃ t, u = Value.bytes b t
  | .flt b, u => ∃ t, u = Value.float b t
  | .ref a, u => u = Value.ref a
  | .ty n, u => u = Value.type n
noncomputable abbrev Vals : List V → List Value → Prop := Paired RelV
theorem Vals.length {xs : List V} {us : List Value} (r : Vals xs us) : xs.length = us.length := Paired.length r
theorem Vals.get : ∀ {xs : List V} {us : List Value} {i : Nat} {x : V}, Vals xs us → xs[i]? = some x → ∃ u, us[i]? = some u ∧ RelV x u
  | _, _, _, _, .nil, e => by simp at e
  | _, _, 0, _, .cons r _, e => by simp at e; subst e; exact ⟨_, rfl, r⟩
  | _, _, i + 1, x, .cons _ t, e => by
    obtain ⟨u, h1, h2⟩ := Vals.get (i := i) (x := x) t (by simpa using e)
    exact ⟨u, by simpa using h1, h2⟩
theorem Vals.set {x : V} {u : Value} (r : RelV x u) : ∀ {xs : List V} {us : List Value} (i : Nat), Vals xs us → Vals (xs.set i x) (us.set i u)
  | _, _, _, .nil => .nil
  | _, _, 0, .cons _ t => .cons r t
  | _, _, i + 1, .cons q t => .cons q (Vals.set r i t)
theorem Vals.append : ∀ {xs ys : List V} {us ws : List Value}, Vals xs us → Vals ys ws → Vals (xs ++ ys) (us ++ ws)
  | _, _, _, _, .nil, s => s
  | _, _, _, _, .cons r t, s => .cons r (Vals.append t s)
theorem Vals.take : ∀ {xs : List V} {us : List Value} (n : Nat), Vals xs us → Vals (xs.take n) (us.take n)
  | _, _, 0, _ => .nil
  | _, _, _ + 1, .nil => .nil
  | _, _, n + 1, .cons r t => .cons r (Vals.take n t)
theorem Vals.drop : ∀ {xs : List V} {us : List Value} (n : Nat), Vals xs us → Vals (xs.drop n) (us.drop n)
  | _, _, 0, r => r
  | _, _, _ + 1, .nil => .nil
  | _, _, n + 1, .cons _ t => Vals.drop n t
noncomputable def RelO : Option V → Option Value → Prop
  | some v, some u => RelV v u
  | none, none => True
  | _, _ => False
noncomputable def KV {κ : Type} : List (κ × V) → List (κ × Value) → Prop := Paired fun (p : κ × V) (q : κ × Value) => p.1 = q.1 ∧ RelV p.2 q.2
noncomputable def kV : Key → V
  | .inl i => .int i
  | .inr x => .str x
inductive HO where
  | lst (xs : List V)
  | tup (xs : List V)
  | dK (kvs : List (Key × V)) | dT (kvs : List (List Key × V))
  | set (S : Int → Bool) (n : Nat)
  | ins (C dx : Addr) (fs : List (Str × V))
  | own (x : Addr)
  | xd (fs : List (Str × V))
  | met (f x : Addr)
  | rng (lo hi : Int)
  | frz (o : Obj) (u : HO)
  | tbl (ps : Array Value)
  | ext (φ : Heap → Prop)
noncomputable abbrev Hp := Addr → Option HO
noncomputable def upd (H : Hp) (a : Addr) (o : HO) : Hp := fun b => if b = a then some o else H b
theorem upd_same {H : Hp} {a : Addr} {o : HO} : upd H a o a = some o := by unfold upd; rw [if_pos rfl]
theorem upd_ne {H : Hp} {a b : Addr} {o : HO} (h : b ≠ a) : upd H a o b = H b := by unfold upd; rw [if_neg h]
theorem ne_of_none {H : Hp} {a b : Addr} {o : HO} (h : H a = some o) (h' : H b = none) : a ≠ b := by
  intro e; subst e; rw [h] at h'; cases h'
noncomputable def TupX (h : Heap) (a : Addr) (its : Array Value) : Prop := ∃ o, h.get? a = some o ∧ (o.cls = .type "tuple" ∧ ∃ n, o.data = .seq its n) ∧ o.dict = none
theorem TupX.tup {h : Heap} {a : Addr} {its : Array Value} (x : TupX h a its) : IsTup h a its := let ⟨o, e, ⟨c, n, d⟩, _⟩ := x; ⟨o, e, c, n, d⟩
theorem TupX.new (h : Heap) (its : Array Value) : TupX (h.push { cls := .type "tuple", data := .seq its }) h.objs.size its := ⟨_, Heap.get?_push_size _ rfl, ⟨rfl, _, rfl⟩, rfl⟩
section
variable (P : Program) (w : World)
noncomputable def ObjOk (H : Hp) (h : Heap) (a : Addr) : HO → Prop
  | .lst xs => xs.length ≤ sizeLine ∧ ∃ (its : List Value) (n : Nat), Vals xs its ∧ h.get? a = some { cls := .type "list", data := .seq its.toArray n }
  | .tup xs => xs.length ≤ sizeLine ∧ ∃ its : List Value, Vals xs its ∧ TupX h a its.toArray
  | .dK kvs => kvs.length ≤ sizeLine ∧ (a == sysModules) = false ∧ ∃ vs, KV kvs vs ∧ h.DictOf (mixKind P w) a vs
  | .dT kvs => kvs.length ≤ sizeLine ∧ (a == sysModules) = false ∧ ∃ xs : List (List Key × Addr × Value),
      Paired (fun (p : List Key × V) (q : List Key × Addr × Value) => p.1 = q.1 ∧ H q.2.1 = some (.tup (p.1.map kV)) ∧ RelV p.2 q.2.2) kvs xs ∧
      ∃ o es ep, h.get? a = some o ∧ o.ExactDict ∧ o.data = .dict es ep ∧ es.toList = xs.map (entryOfKey (tupleKind (mixKind P w))) ∧ (xs.map (·.1)).Nodup
  | .set S n => h.SetOf (intKind P w) a S n
  | .ins C dx fs => H dx = some (.own a) ∧ fs.length ≤ 1000 ∧ dx ≠ a ∧ h.get? a = some (PySem.W.instObj C dx) ∧
      ∃ mA, h.Ns1 dx mA ∧ (∀ f, RelO (fs.lookup f) (mA f)) ∧ PySem.Within mA (fs.map (·.1))
  | .own _ => ∃ o, h.get? a = some o
  | .xd fs => ∃ mA, h.Ns1 a mA ∧ ∀ f, RelO (fs.lookup f) (mA f)
  | .rng lo hi => ∃ t u v, h.get? a = some { cls := .type "range", data := .fields #[.int lo t, .int hi u, .int 1 v] }
  | .frz o u => h.get? a = some o ∧ ObjOk H h a u
  | .tbl ps => h.get? a = some { cls := .none, data := .fields ps }
  | .met f x => h.get? a = some (PySem.W.methodObj (.ref f) (.ref x))
  | .ext φ => φ h ∧ (∃ o, h.get? a = some o) ∧ ∀ h1 h2 : Heap, φ h1 → (∀ o, h1.get? a = some o → h2.get? a = some o) → φ h2
noncomputable def HOk (H : Hp) (h : Heap) : Prop := ∀ a o, H a = some o → ObjOk P w H h a o
end
section
variable {P : Program} {w : World} {H H' : Hp} {h h' : Heap} {a : Addr} {o : HO}
theorem ObjOk.lt (x : ObjOk P w H h a o) : a < h.objs.size := by
  cases o with
  | lst xs => obtain ⟨_, _, _, _, e⟩ := x; exact Heap.lt_size e
  | tup xs => obtain ⟨_, _, _, _, e, _⟩ := x; exact Heap.lt_size e
  | dK kvs => obtain ⟨_, _, _, _, o, _, _, e, _⟩ := x; exact Heap.lt_size e
  | dT kvs => obtain ⟨_, _, _, _, o, _, _, e, _⟩ := x; exact Heap.lt_size e
  | set S n => obtain ⟨o, _, _, _, e, _⟩ := x; exact Heap.lt_size e
  | ins C dx fs => obtain ⟨_, _, _, e, _⟩ := x; exact Heap.lt_size e
  | own y => obtain ⟨_, e⟩ := x; exact Heap.lt_size e
  | xd fs => obtain ⟨_, ⟨_, _, _, e, _⟩, _⟩ := x; exact Heap.lt_size e
  | rng lo hi => obtain ⟨_, _, _, e⟩ := x; exact Heap.lt_size e
  | frz ob u => obtain ⟨e, _⟩ := x; exact Heap.lt_size e
  | tbl ps => exact Heap.lt_size (show h.get? a = some _ from x)
  | met f y => exact Heap.lt_size (show h.get? a = some _ from x)
  | ext φ => obtain ⟨_, ⟨_, e⟩, _⟩ := x; exact Heap.lt_size e
theorem Paired.mapP {α β : Type} {F G : α → β → Prop} : ∀ {l₁ : List α} {l₂ : List β}, Paired F l₁ l₂ → (∀ a b, F a b → G a b) → Paired G l₁ l₂
  | _, _, .nil, _ => .nil
  | _, _, .cons r t, f => .cons (f _ _ r) (Paired.mapP t f)
theorem ObjOk.stay (x : ObjOk P w H h a o) (k : ∀ b u, (b = a ∨ H b = some (.own a)) → h.get? b = some u → h'.get? b = some u)
    (ho : ∀ b, H b = some (.own a) → H' b = some (.own a)) (ht : ∀ b xs, H b = some (.tup xs) → H' b = some (.tup xs)) : ObjOk P w H' h' a o := by
  induction o with
  | lst xs => obtain ⟨z, its, n, r, e⟩ := x; exact ⟨z, its, n, r, k _ _ (.inl rfl) e⟩
  | tup xs => obtain ⟨z, its, r, ob, e, c⟩ := x; exact ⟨z, its, r, ob, k _ _ (.inl rfl) e, c⟩
  | dK kvs => obtain ⟨z, y, vs, r, ob, es, ep, e, c⟩ := x; exact ⟨z, y, vs, r, ob, es, ep, k _ _ (.inl rfl) e, c⟩
  | dT kvs =>
    obtain ⟨z, y, xs, r, ob, es, ep, e, c⟩ := x
    exact ⟨z, y, xs, Paired.mapP r fun p q z => ⟨z.1, ht _ _ z.2.1, z.2.2⟩, ob, es, ep, k _ _ (.inl rfl) e, c⟩
  | set S n => obtain ⟨ob, es, ep, t, e, c⟩ := x; exact ⟨ob, es, ep, t, k _ _ (.inl rfl) e, c⟩
  | ins C dx fs =>
    obtain ⟨d, z, ne, e, mA, ⟨od, es, ep, e2, c⟩, r⟩ := x
    exact ⟨ho _ d, z, ne, k _ _ (.inl rfl) e, mA, ⟨od, es, ep, k _ _ (.inr d) e2, c⟩, r⟩
  | own y => obtain ⟨ob, e⟩ := x; exact ⟨ob, k _ _ (.inl rfl) e⟩
  | xd fs => obtain ⟨mA, ⟨od, es, ep, e, c⟩, r⟩ := x; exact ⟨mA, ⟨od, es, ep, k _ _ (.inl rfl) e, c⟩, r⟩
  | rng lo hi => obtain ⟨t, u, v, e⟩ := x; exact ⟨t, u, v, k _ _ (.inl rfl) e⟩
  | frz ob u ih => obtain ⟨e, q⟩ := x; exact ⟨k _ _ (.inl rfl) e, ih q⟩
  | tbl ps =>
    have e : h.get? a = some { cls := .none, data := .fields ps } := x
    show h'.get? a = some { cls := .none, data := .fields ps }
    exact k a _ (.inl rfl) e
  | met f y =>
    have e : h.get? a = some (PySem.W.methodObj (.ref f) (.ref y)) := x
    show h'.get? a = some (PySem.W.methodObj (.ref f) (.ref y))
    exact k a _ (.inl rfl) e
  | ext φ => obtain ⟨p, ⟨o, e⟩, st⟩ := x; exact ⟨st _ _ p fun o q => k _ _ (.inl rfl) q, ⟨o, k _ _ (.inl rfl) e⟩, st⟩
theorem HOk.lt (x : HOk P w H h) (e : H a = some o) : a < h.objs.size := (x a o e).lt
theorem HOk.fresh (x : HOk P w H h) (e : h.objs.size ≤ a) : H a = none := by
  cases q : H a with
  | none => rfl
  | some u => exact absurd (Nat.lt_of_lt_of_le (x.lt q) e) (Nat.lt_irrefl _)
theorem HOk.kept (x : HOk P w H h) (k : ∀ b u, h.get? b = some u → h'.get? b = some u) : HOk P w H h' := fun a o e =>
  (x a o e).stay (fun b u _ q => k b u q) (fun _ q => q) fun _ _ q => q
theorem HOk.laid (x : HOk P w H h) (k : ∀ b u, h.get? b = some u → h'.get? b = some u) (hp : h.objs.size ≤ a) (new : ObjOk P w (upd H a o) h' a o) : HOk P w (upd H a o) h' := fun b u e => by
  have hn := x.fresh hp
  by_cases hb : b = a
  · subst hb; rw [upd_same] at e; cases e; exact new
  · rw [upd_ne hb] at e
    exact (x b u e).stay (fun c v _ q => k c v q) (fun c q => by rw [upd_ne (ne_of_none q hn)]; exact q) fun c xs q => by rw [upd_ne (ne_of_none q hn)]; exact q
end
noncomputable def Rd (H : Hp) (a : Addr) (u : HO) : Prop := H a = some u ∨ ∃ o, H a = some (.frz o u)
theorem Rd.ok {P : Program} {w : World} {H : Hp} {h : Heap} {a : Addr} {u : HO} (r : Rd H a u) (x : HOk P w H h) : ObjOk P w H h a u := by
  rcases r with r | ⟨o, r⟩
  · exact x a u r
  · obtain ⟨_, q⟩ := x a _ r
    exact q
noncomputable def Mut : Option HO → Prop
  | some (.lst _) => True
  | some (.dK _) => True
  | some (.dT _) => True
  | some (.set _ _) => True
  | some (.ins _ _ _) => True
  | some (.ext _) => True
  | _ => False
section
variable {P : Program} {w : World} {H : Hp} {h h' : Heap} {x e : Addr} {o' : HO}
theorem HOk.write (ok : HOk P w H h) (mu : Mut (H x)) (he : e = x ∨ H e = some (.own x)) (k : ∀ b u, b ≠ e → h.get? b = some u → h'.get? b = some u) (heo : ∃ u, h'.get? e = some u)
    (new : ObjOk P w (upd H x o') h' x o') : HOk P w (upd H x o') h' := fun b u q => by
  have nown : ∀ c y, H c = some (.own y) → c ≠ x := fun c y r z => by subst z; rw [r] at mu; exact mu
  have ntup : ∀ c xs, H c = some (.tup xs) → c ≠ x := fun c xs r z => by subst z; rw [r] at mu; exact mu
  by_cases hb : b = x
  · subst hb; rw [upd_same] at q; cases q; exact new
  · rw [upd_ne hb] at q
    by_cases hbe : b = e
    · have q' : H b = some (.own x) := by
        rcases he with z | z
        · exact absurd (hbe.trans z) hb
        · rw [hbe]; exact z
      rw [q] at q'; cases q'
      obtain ⟨v, hv⟩ := heo
      exact ⟨v, by rw [hbe]; exact hv⟩
    · refine (ok b u q).stay (fun c v hc r => k c v ?_ r) (fun c r => by rw [upd_ne (nown c b r)]; exact r) fun c xs r => by rw [upd_ne (ntup c xs r)]; exact r
      rcases hc with rfl | hc
      · exact hbe
      · rintro rfl
        rcases he with z | z
        · exact nown c b hc z
        · rw [hc] at z; cases z; exact hb rfl
end
structure Un (fs ex : List Addr) (H H' : Hp) (h h' : Heap) : Prop where
  keep : ∀ b o, h.get? b = some o → H b = none → b ∉ fs → b ∉ ex → h'.get? b = some o
  slot : ∀ b o, h.get? b = some o → H b = none → b ∈ fs → b ∉ ex → ∃ sl, h'.get? b = some { o with slots := sl }
  free : ∀ b o, h.get? b = some o → H b = none → b ∉ ex → H' b = none
  there : ∀ b o, h.get? b = some o → b ∉ ex → ∃ o', h'.get? b = some o'
  tups : ∀ b xs, H b = some (.tup xs) → H' b = some (.tup xs)
  frzs : ∀ b o u, H b = some (.frz o u) → H' b = some (.frz o u)
  tbls : ∀ b ps, H b = some (.tbl ps) → ∃ more, H' b = some (.tbl (ps ++ more))
section
variable {fs fs' ex ex' : List Addr} {H H1 H2 : Hp} {h h1 h2 h' : Heap} {a x e : Addr} {o : HO}
theorem Un.any (u : Un fs ex H H1 h h1) {b : Addr} {ob : Obj} (q : h.get? b = some ob) (n : H b = none) (hx : b ∉ ex) : ∃ sl, h1.get? b = some { ob with slots := sl } := by
  by_cases hb : b ∈ fs
  · exact u.slot b ob q n hb hx
  · exact ⟨ob.slots, u.keep b ob q n hb hx⟩
theorem Un.kept (k : ∀ b u, h.get? b = some u → h'.get? b = some u) : Un fs ex H H h h' :=
  ⟨fun b ob q _ _ _ => k b ob q, fun b ob q _ _ _ => ⟨ob.slots, k b ob q⟩, fun _ _ _ n _ => n, fun b ob q _ => ⟨ob, k b ob q⟩, fun _ _ q => q, fun _ _ _ q => q, fun _ ps q => ⟨#[], by rw [q]; simp⟩⟩
theorem Un.refl : Un fs ex H H h h := Un.kept fun _ _ q => q
theorem Un.laid (k : ∀ b u, h.get? b = some u → h'.get? b = some u) (hp : h.objs.size ≤ a) (hn : H a = none) : Un fs ex H (upd H a o) h h' where
  keep := fun b u q _ _ _ => k b u q
  slot := fun b u q _ _ _ => ⟨u.slots, k b u q⟩
  free := fun b u q n _ => by rw [upd_ne (Nat.ne_of_lt (Nat.lt_of_lt_of_le (Heap.lt_size q) hp))]; exact n
  there := fun b u q _ => ⟨u, k b u q⟩
  tups := fun b xs q => by rw [upd_ne (ne_of_none q hn)]; exact q
  frzs := fun b u xs q => by rw [upd_ne (ne_of_none q hn)]; exact q
  tbls := fun b ps q => ⟨#[], by rw [upd_ne (ne_of_none q hn), q]; simp⟩
theorem Un.write (mu : Mut (H x)) (he : e = x ∨ H e = some (.own x)) (k : ∀ b u, b ≠ e → h.get? b = some u → h'.get? b = some u) (heo : ∃ u, h'.get? e = some u) : Un fs ex H (upd H x o) h h' := by
  have hx : ∀ b, H b = none → b ≠ x := fun b n z => by subst z; rw [n] at mu; exact mu
  have hb : ∀ b, H b = none → b ≠ e := fun b n z => by
    subst z
    rcases he with r | r
    · exact hx b n r
    · rw [n] at r; cases r
  have hm : ∀ b u, H b = some u → ¬ Mut (some u) → b ≠ x := fun b u q nm z => by subst z; rw [q] at mu; exact nm mu
  refine ⟨fun b u q n _ _ => k b u (hb b n) q, fun b u q n _ _ => ⟨u.slots, k b u (hb b n) q⟩, fun b u q n _ => by rw [upd_ne (hx b n)]; exact n, fun b u q _ => ?_,
    fun b xs q => by rw [upd_ne (hm b _ q fun z => z)]; exact q, fun b u xs q => by rw [upd_ne (hm b _ q fun z => z)]; exact q, fun b ps q => ⟨#[], by rw [upd_ne (hm b _ q fun z => z), q]; simp⟩⟩
  by_cases hbe : b = e
  · subst hbe; exact heo
  · exact ⟨u, k b u hbe q⟩
end
noncomputable def trk (h : Heap) (H : Hp) : List Addr := (List.range h.objs.size).filter fun a => (H a).isSome
noncomputable def hidT (h : Heap) (H : Hp) : Heap := PySem.W.hideAll h (trk h H)
theorem hidT_size (h : Heap) (H : Hp) : (hidT h H).objs.size = h.objs.size := PySem.W.hideAll_size _ _
theorem hidT_get {h : Heap} {H : Hp} {b : Addr} {o : Obj} (e : h.get? b = some o) (n : H b = none) : (hidT h H).get? b = some o :=
  PySem.W.hideAll_get _ e fun hm => by
    have q : (H b).isSome = true := (List.mem_filter.mp hm).2
    rw [n] at q; simp at q
theorem of_hidT {h : Heap} {H : Hp} {b : Addr} {o : Obj} (e : (hidT h H).get? b = some o) : h.get? b = some o ∧ H b = none := by
  have e' : h.get? b = some o := PySem.W.of_hideAll (trk h H) e
  refine ⟨e', ?_⟩
  cases q : H b with
  | none => rfl
  | some x =>
    have hm : b ∈ trk h H := List.mem_filter.mpr ⟨List.mem_range.mpr (Heap.lt_size e'), by simp [q]⟩
    have z : (hidT h H).get? b = none := PySem.W.hideAll_none (trk h H) hm
    rw [z] at e; cases e
end L2
namespace L2
open PySem PySem.Spec PyProof.Rows
structure Mod (K : PySem.W.Frag) (mg : Str → Option Value) (base : Heap) : Prop where
  kin : K.In base
  glob : base.Ns mainGlobals mg
  blt : ∃ mb, base.Ns builtinsNs mb ∧ ∀ x : Str, x ≠ "__name__" → mb x = bootBuiltins x
  nolimit : base.NoLimit
structure Cx where
  prog : Program
  w : World
  K : PySem.W.Frag
  mg : Str → Option Value
  base : Heap
  A : Around
  N : List Str
  s₀ : Shared
  H₀ : Hp
  env : Env
  outer : List Env
  stack : List Env
  ex : List Addr
  fn : Str → Bool
  calm : Bool
  pn : List (Addr × Obj)
  xe : Value → Shared → Prop
noncomputable def frs (l : List Env) : List Addr := l.filterMap (·.frame)
noncomputable abbrev Cx.fs (X : Cx) : List Addr := frs X.outer
noncomputable def Vis (sc : Scope) (x : Str) : Prop := sc.names.lookup x = some .local ∨ sc.names.lookup x = some .cell ∨ sc.names.lookup x = some .free
noncomputable def Loc (sc : Scope) (x : Str) : Prop := sc.names.lookup x = some .local ∨ sc.names.lookup x = some .cell
noncomputable def Look (env : Env) (h : Heap) (m : Str → Option Value) (x : Str) (u : Value) : Prop :=
  (env.kindOf x = some .local ∧ m x = some u) ∨ ((env.kindOf x = some .cell ∨ env.kindOf x = some .free) ∧ ∃ c, env.cells.lookup x = some c ∧ h.IsCell c (some u))
structure Cx.Ok (X : Cx) : Prop where
  mod : Mod X.K X.mg X.base
  kind : X.env.scope.kind = .function
  glob : X.env.globals = mainGlobals
  blt : X.env.builtins = builtinsNs
  above : X.s₀.heap.objs.size ≤ X.env.locals
  inj : ∀ x y c, X.env.cells.lookup x = some c → X.env.cells.lookup y = some c → x = y
  has : ∀ x, (X.env.kindOf x = some .cell ∨ X.env.kindOf x = some .free) → ∃ c, X.env.cells.lookup x = some c
  cab : ∀ x c, X.fn x = true → X.env.cells.lookup x = some c → X.s₀.heap.objs.size ≤ c
  hd : X.calm = true → X.A.handled = none
  frames : X.A.frames = some X.stack
  stk : X.stack = X.outer ∨ (X.stack = X.env :: X.outer ∧ X.env.frame = some X.env.locals)
  exf : ∀ b ∈ X.ex, b ≠ X.env.locals ∧ ∀ x c, X.env.cells.lookup x = some c → c ≠ b
  bs : ∀ b o, X.base.get? b = some o → X.s₀.heap.get? b = some o ∧ X.H₀ b = none
  bsz : X.base.objs.size ≤ X.s₀.heap.objs.size
  noex : ∀ b o, X.base.get? b = some o → b ∉ X.ex
  exfs : ∀ b ∈ X.ex, b ∉ X.fs
  funs : X.s₀.heap.FunFrames X.base X.outer
  frf : ∀ b ∈ X.fs, X.H₀ b = none
structure Inv (X : Cx) (pins : List (Addr × Obj)) (σ : List (Option V)) (H : Hp) (s : Shared) : Prop where
  ok : X.Ok
  os : s.os = X.s₀.os
  bare : AllBare s.gens
  base : Un X.fs X.ex X.H₀ H X.s₀.heap s.heap
  loc : ∃ m, s.heap.Ns X.env.locals m ∧ ∀ (i : Nat) (x : Str) (v : V), X.N[i]? = some x → σ[i]? = some (some v) → Vis X.env.scope x → ∃ u, RelV v u ∧ Look X.env s.heap m x u
  cell : ∀ x c, X.env.cells.lookup x = some c → ∃ v, s.heap.IsCell c v
  free : H X.env.locals = none
  freeC : ∀ x c, X.env.cells.lookup x = some c → H c = none
  pin : ∀ p ∈ X.pn ++ pins, s.heap.get? p.1 = some p.2 ∧ H p.1 = none ∧ p.1 ≠ X.env.locals ∧ p.1 ∉ X.fs ∧ ∀ v, p.2.data ≠ .cell v
  hok : HOk X.prog X.w H s.heap
  len : σ.length = X.N.length
section
variable {X : Cx} {pins : List (Addr × Obj)} {σ : List (Option V)} {H H' : Hp} {s : Shared} {h' : Heap}
theorem Cx.Ok.nofr (ok : X.Ok) {b : Addr} {o : Obj} (e : X.base.get? b = some o) : b ∉ X.fs := fun hb => by
  have := (ok.funs.mem hb).1
  rw [e] at this; cases this
theorem Inv.bs (I : Inv X pins σ H s) : ∀ b o, X.base.get? b = some o → s.heap.get? b = some o ∧ H b = none := fun b o e =>
  ⟨I.base.keep b o (I.ok.bs b o e).1 (I.ok.bs b o e).2 (I.ok.nofr e) (I.ok.noex b o e), I.base.free b o (I.ok.bs b o e).1 (I.ok.bs b o e).2 (I.ok.noex b o e)⟩
theorem Inv.bk (I : Inv X pins σ H s) : ∀ b o, X.base.get? b = some o → s.heap.get? b = some o := fun b o e => (I.bs b o e).1
theorem Inv.mod (I : Inv X pins σ H s) : Mod X.K X.mg X.base := I.ok.mod
theorem Inv.kIn (I : Inv X pins σ H s) : X.K.In s.heap := I.ok.mod.kin.keeps I.bk
theorem Inv.nolimit (I : Inv X pins σ H s) : s.heap.NoLimit := I.ok.mod.nolimit.keeps I.bk
theorem Inv.lt (I : Inv X pins σ H s) : X.env.locals < s.heap.objs.size := let ⟨_, hn, _⟩ := I.loc; hn.lt
theorem Inv.sz (I : Inv X pins σ H s) : X.s₀.heap.objs.size ≤ s.heap.objs.size := Nat.le_trans I.ok.above (Nat.le_of_lt I.lt)
theorem Inv.nofs (I : Inv X pins σ H s) {a : Addr} (h : s.heap.objs.size ≤ a) : a ∉ X.fs := fun hb => by
  obtain ⟨_, o, ho, _⟩ := I.ok.funs.mem hb
  exact absurd (Nat.lt_of_lt_of_le (Heap.lt_size ho) (Nat.le_trans I.sz h)) (Nat.lt_irrefl _)
theorem Inv.cne (I : Inv X pins σ H s) : ∀ x c, X.env.cells.lookup x = some c → c ≠ X.env.locals := fun x c e z => by
  obtain ⟨v, o, ho, hd⟩ := I.cell x c e
  obtain ⟨m, ⟨o', es, ep, ho', hd', _⟩, _⟩ := I.loc
  rw [z, ho'] at ho; cases ho; rw [hd'] at hd; cases hd
theorem Inv.funs (I : Inv X pins σ H s) : s.heap.FunFrames X.base X.outer := by
  have all : ∀ (l : List Env), (∀ b ∈ frs l, b ∈ X.fs) → X.s₀.heap.FunFrames X.base l → s.heap.FunFrames X.base l := by
    intro l
    induction l with
    | nil => intro _ _; trivial
    | cons env r ih =>
      intro hs hl
      obtain ⟨hk, ⟨L, o, hf, hn, ho, hd⟩, hr⟩ := hl
      have hL : L ∈ X.fs := hs L (by unfold frs; rw [List.filterMap_cons, hf]; exact List.mem_cons_self)
      obtain ⟨sl, e⟩ := I.base.slot L o ho (I.ok.frf L hL) hL fun z => I.ok.exfs L z hL
      exact ⟨hk, ⟨L, _, hf, hn, e, hd⟩, ih (fun b hb => hs b (by unfold frs; rw [List.filterMap_cons, hf]; exact List.mem_cons_of_mem _ hb)) hr⟩
  exact all X.outer (fun _ hb => hb) I.ok.funs
theorem Inv.stack (I : Inv X pins σ H s) : s.heap.FunFrames X.base X.stack := by
  rcases I.ok.stk with e | ⟨e, hf⟩
  · rw [e]; exact I.funs
  · rw [e]
    obtain ⟨m, hn, _⟩ := I.loc
    refine .cons (by rw [I.ok.kind]; decide) hf hn ?_ I.funs
    exact Heap.get?_none_of_le (Nat.le_trans I.ok.bsz I.ok.above)
theorem Inv.stkSub (I : Inv X pins σ H s) : ∀ b ∈ frs X.stack, b ∈ X.env.locals :: X.fs := fun b hb => by
  rcases I.ok.stk with e | ⟨e, hf⟩
  · rw [e] at hb; exact List.mem_cons_of_mem _ hb
  · rw [e] at hb
    unfold frs at hb
    rw [List.filterMap_cons, hf] at hb
    exact hb
theorem Inv.stkFree (I : Inv X pins σ H s) : ∀ b ∈ frs X.stack, H b = none := fun b hb => by
  rcases List.mem_cons.mp (I.stkSub b hb) with e | hb
  · rw [e]; exact I.free
  · obtain ⟨_, o, ho, _⟩ := I.ok.funs.mem hb
    exact I.base.free b o ho (I.ok.frf b hb) fun z => I.ok.exfs b z hb
theorem Inv.step {g' : Array GenState} {t' : Nat} {d' : Drawn} {ch : List Addr} (I : Inv X pins σ H s)
    (hch : ∀ b ∈ ch, (b ∈ X.ex ∨ X.s₀.heap.objs.size ≤ b) ∧ b ≠ X.env.locals ∧ (∀ x c, X.env.cells.lookup x = some c → c ≠ b) ∧ ∀ p ∈ X.pn ++ pins, p.1 ≠ b)
    (keep : ∀ b o, b ≠ X.env.locals → b ∉ X.fs → b ∉ ch → s.heap.get? b = some o → H b = none → h'.get? b = some o)
    (slot : ∀ b o, b ≠ X.env.locals → b ∈ X.fs → b ∉ ch → s.heap.get? b = some o → H b = none → ∃ sl, h'.get? b = some { o with slots := sl }) (free : ∀ b o, b ∉ ch → s.heap.get? b = some o → H b = none → H' b = none)
    (there : ∀ b o, b ∉ ch → s.heap.get? b = some o → ∃ o', h'.get? b = some o')
    (tups : ∀ b xs, H b = some (.tup xs) → H' b = some (.tup xs)) (frzs : ∀ b o u, H b = some (.frz o u) → H' b = some (.frz o u)) (tbls : ∀ b ps, H b = some (.tbl ps) → ∃ more, H' b = some (.tbl (ps ++ more)))
    (ns : ∀ m, s.heap.Ns X.env.locals m → h'.Ns X.env.locals m) (hok : HOk X.prog X.w H' h') (hg : AllBare g') :
    Inv X pins σ H' { s with heap := h', gens := g', drawn := d', toks := t' } := by
  have neL : ∀ b o, X.s₀.heap.get? b = some o → b ≠ X.env.locals := fun b o e => Nat.ne_of_lt (Nat.lt_of_lt_of_le (Heap.lt_size e) I.ok.above)
  have neC : ∀ b o, X.s₀.heap.get? b = some o → b ∉ X.ex → b ∉ ch := fun b o e hx hb => by
    rcases (hch b hb).1 with z | z
    · exact hx z
    · exact absurd (Nat.lt_of_lt_of_le (Heap.lt_size e) z) (Nat.lt_irrefl _)
  have cellK : ∀ x c, X.env.cells.lookup x = some c → ∀ v, s.heap.IsCell c v → h'.IsCell c v := fun x c e v ⟨o, ho, hd⟩ => by
    have nch : c ∉ ch := fun z => (hch c z).2.2.1 x c e rfl
    by_cases hc : c ∈ X.fs
    · obtain ⟨sl, q⟩ := slot c o (I.cne x c e) hc nch ho (I.freeC x c e)
      exact ⟨_, q, hd⟩
    · exact ⟨o, keep c o (I.cne x c e) hc nch ho (I.freeC x c e), hd⟩
  refine ⟨I.ok, I.os, hg, ⟨fun b o e n hb hx => ?_, fun b o e n hb hx => ?_, fun b o e n hx => ?_, fun b o e hx => ?_, fun b xs e => tups b xs (I.base.tups b xs e), fun b o xs e => frzs b o xs (I.base.frzs b o xs e), fun b ps e => ?_⟩, ?_, fun x c e => ?_, ?_, fun x c e => ?_, fun p hp => ?_, hok, I.len⟩
  · exact keep b o (neL b o e) hb (neC b o e hx) (I.base.keep b o e n hb hx) (I.base.free b o e n hx)
  · obtain ⟨sl, e1⟩ := I.base.slot b o e n hb hx
    obtain ⟨sl', e2⟩ := slot b _ (neL b o e) hb (neC b o e hx) e1 (I.base.free b o e n hx)
    exact ⟨sl', e2⟩
  · obtain ⟨o', e1⟩ := I.base.there b o e hx
    exact free b o' (neC b o e hx) e1 (I.base.free b o e n hx)
  · obtain ⟨o', e1⟩ := I.base.there b o e hx
    exact there b o' (neC b o e hx) e1
  · obtain ⟨m1, e1⟩ := I.base.tbls b ps e
    obtain ⟨m2, e2⟩ := tbls b _ e1
    exact ⟨m1 ++ m2, by rw [e2, Array.append_assoc]⟩
  · obtain ⟨m, hn, hl⟩ := I.loc
    refine ⟨m, ns m hn, fun i x v e1 e2 e3 => ?_⟩
    obtain ⟨u, r, l⟩ := hl i x v e1 e2 e3
    refine ⟨u, r, ?_⟩
    rcases l with l | ⟨k, c, e, z⟩
    · exact .inl l
    · exact .inr ⟨k, c, e, cellK x c e _ z⟩
  · obtain ⟨v, z⟩ := I.cell x c e
    exact ⟨v, cellK x c e v z⟩
  · obtain ⟨m, ⟨o, _, _, ho, _⟩, _⟩ := I.loc
    exact free _ o (fun z => (hch _ z).2.1 rfl) ho I.free
  · obtain ⟨v, o, ho, hd⟩ := I.cell x c e
    exact free c o (fun z => (hch c z).2.2.1 x c e rfl) ho (I.freeC x c e)
  · obtain ⟨e, n, ne, nf, d⟩ := I.pin p hp
    have nch : p.1 ∉ ch := fun z => (hch p.1 z).2.2.2 p hp rfl
    exact ⟨keep p.1 p.2 ne nf nch e n, free p.1 p.2 nch e n, ne, nf, d⟩
theorem Inv.un {t' : Nat} (I : Inv X pins σ H s) (u : Un X.fs [] H H' s.heap h') (hok : HOk X.prog X.w H' h') : Inv X pins σ H' { s with heap := h', toks := t' } := by
  obtain ⟨m, ⟨o, es, ep, ho, r⟩, _⟩ := id I.loc
  obtain ⟨sl, hL⟩ := u.any ho I.free (by simp)
  exact I.step (g' := s.gens) (d' := s.drawn) (ch := []) (fun _ z => nomatch z) (fun b o _ hb _ e n => u.keep b o e n hb (by simp)) (fun b o _ hb _ e n => u.slot b o e n hb (by simp)) (fun b o _ e n => u.free b o e n (by simp)) (fun b o _ e => u.there b o e (by simp)) u.tups u.frzs u.tbls (fun m' hm => by
    obtain ⟨o', es', ep', ho', r'⟩ := hm
    rw [ho] at ho'; cases ho'
    exact ⟨_, es', ep', hL, r'⟩) hok I.bare
theorem Inv.call {g' : Array GenState} {t' : Nat} {d' : Drawn} {ch : List Addr} (I : Inv X pins σ H s) (u : Un (frs X.stack) ch H H' s.heap h') (hok : HOk X.prog X.w H' h') (hg : AllBare g')
    (hch : ∀ b ∈ ch, (b ∈ X.ex ∨ X.s₀.heap.objs.size ≤ b) ∧ b ≠ X.env.locals ∧ (∀ x c, X.env.cells.lookup x = some c → c ≠ b) ∧ ∀ p ∈ X.pn ++ pins, p.1 ≠ b) :
    Inv X pins σ H' { s with heap := h', gens := g', drawn := d', toks := t' } := by
  obtain ⟨m, ⟨o, es, ep, ho, r⟩, _⟩ := id I.loc
  obtain ⟨sl, hL⟩ := u.any ho I.free fun z => (hch _ z).2.1 rfl
  exact I.step (ch := ch) hch (fun b o hL hb hc e n => u.keep b o e n (fun z => (List.mem_cons.mp (I.stkSub b z)).elim hL hb) hc) (fun b o _ _ hc e n => u.any e n hc) (fun b o hc e n => u.free b o e n hc) (fun b o hc e => u.there b o e hc) u.tups u.frzs u.tbls (fun m' hm => by
    obtain ⟨o', es', ep', ho', r'⟩ := hm
    rw [ho] at ho'; cases ho'
    exact ⟨_, es', ep', hL, r'⟩) hok hg
theorem Inv.turned {t' : Nat} {it : Addr} (I : Inv X pins σ H s) (k : ∀ b o, b ≠ it → s.heap.get? b = some o → h'.get? b = some o) (hn : H it = none) (hL : it ≠ X.env.locals)
    (h1 : it ∈ X.ex ∨ X.s₀.heap.objs.size ≤ it) (h2 : ∀ x c, X.env.cells.lookup x = some c → c ≠ it) (h3 : ∀ p ∈ X.pn ++ pins, p.1 ≠ it) : Inv X pins σ H { s with heap := h', toks := t' } := by
  have nit : ∀ b u, H b = some u → b ≠ it := fun b u e z => by rw [z, hn] at e; cases e
  refine I.step (g' := s.gens) (d' := s.drawn) (ch := [it]) (fun b hb => ?_) (fun b o _ _ hc e _ => k b o (fun z => hc (by simp [z])) e) (fun b o _ _ hc e _ => ⟨o.slots, k b o (fun z => hc (by simp [z])) e⟩) (fun _ _ _ _ n => n)
    (fun b o hc e => ⟨o, k b o (fun z => hc (by simp [z])) e⟩) (fun _ _ e => e) (fun _ _ _ e => e) (fun b ps e => ⟨#[], by rw [e]; simp⟩) (fun m hm => ?_) (fun b u e => ?_) I.bare
  · have e : b = it := by simpa using hb
    subst e
    exact ⟨h1, hL, h2, h3⟩
  · obtain ⟨o, es, ep, ho, r⟩ := hm
    exact ⟨o, es, ep, k _ o (Ne.symm hL) ho, r⟩
  · refine (I.hok b u e).stay (fun c v hc q => k c v ?_ q) (fun _ q => q) fun _ _ q => q
    rcases hc with z | z
    · rw [z]; exact nit b u e
    · exact nit c _ z
theorem Inv.tok (I : Inv X pins σ H s) (t : Nat) : Inv X pins σ H { s with toks := t } := I.un (h' := s.heap) (t' := t) Un.refl I.hok
theorem Inv.kept {t' : Nat} (I : Inv X pins σ H s) (k : ∀ b u, s.heap.get? b = some u → h'.get? b = some u) : Inv X pins σ H { s with heap := h', toks := t' } := I.un (Un.kept k) (I.hok.kept k)
theorem Inv.laid {a : Addr} {o : HO} {t' : Nat} (I : Inv X pins σ H s) (k : ∀ b u, s.heap.get? b = some u → h'.get? b = some u) (hp : s.heap.objs.size ≤ a) (new : ObjOk X.prog X.w (upd H a o) h' a o) :
    Inv X pins σ (upd H a o) { s with heap := h', toks := t' } := I.un (Un.laid k hp (I.hok.fresh hp)) (I.hok.laid k hp new)
theorem Inv.write {x e : Addr} {o : HO} {t' : Nat} (I : Inv X pins σ H s) (mu : Mut (H x)) (he : e = x ∨ H e = some (.own x)) (k : ∀ b u, b ≠ e → s.heap.get? b = some u → h'.get? b = some u) (heo : ∃ u, h'.get? e = some u)
    (new : ObjOk X.prog X.w (upd H x o) h' x o) : Inv X pins σ (upd H x o) { s with heap := h', toks := t' } := I.un (Un.write mu he k heo) (I.hok.write mu he k heo new)
theorem Inv.pins_of {pins' : List (Addr × Obj)} (I : Inv X pins σ H s) (h : ∀ p ∈ pins', s.heap.get? p.1 = some p.2 ∧ H p.1 = none ∧ p.1 ≠ X.env.locals ∧ p.1 ∉ X.fs ∧ ∀ v, p.2.data ≠ .cell v) : Inv X pins' σ H s :=
  ⟨I.ok, I.os, I.bare, I.base, I.loc, I.cell, I.free, I.freeC, fun p hp => (List.mem_append.mp hp).elim (fun z => I.pin p (List.mem_append_left _ z)) (h p), I.hok, I.len⟩
theorem nodup_ix {N : List Str} (hN : N.Nodup) {i j : Nat} {x : Str} (a : N[i]? = some x) (b : N[j]? = some x) : i = j := by
  obtain ⟨h1, e1⟩ := List.getElem?_eq_some_iff.mp a
  obtain ⟨h2, e2⟩ := List.getElem?_eq_some_iff.mp b
  exact (List.getElem_inj hN).mp (e1.trans e2.symm)
theorem store_ok2 {M : Model} {A : Around} {E : Value → Shared → Prop} {i : Nat} {x : Str} {v : V} {u : Value} {Q : Unit → Shared → Prop} (I : Inv X pins σ H s) (hN : X.N.Nodup) (hi : X.N[i]? = some x) (hx : Loc X.env.scope x) (r : RelV v u)
    (h : ∀ s', Inv X pins (σ.set i (some v)) H s' → (∃ a, Heap.SameBut a s.heap s'.heap ∧ (a = X.env.locals ∨ X.env.cells.lookup x = some a)) → Q () s') (hf : X.fn x = true ∨ X.env.scope.names.lookup x = some .local := by first | exact .inl rfl | exact .inr rfl | assumption) : wpAny M A (storeName X.env x u) Q E s := by
  obtain ⟨m, hn, hl⟩ := id I.loc
  have hcls : (X.env.scope.kind == .class || (X.env.scope.kind == .module && X.env.locals != X.env.globals)) = false := by rw [I.ok.kind]; rfl
  have hiσ : i < σ.length := by rw [I.len]; exact (List.getElem?_eq_some_iff.mp hi).1
  have cne := I.cne
  have tracked : ∀ {a : Addr} {h' : Heap}, (∃ o, s.heap.get? a = some o ∧ H a = none) → Heap.SameBut a s.heap h' → HOk X.prog X.w H h' := fun {a h'} ha hs b ob e => by
    obtain ⟨_, _, hfree⟩ := ha
    refine (I.hok b ob e).stay (fun c w' hc q => (hs.2 c ?_).trans q) (fun _ q => q) fun _ _ q => q
    rintro rfl
    rcases hc with rfl | hc
    · rw [hfree] at e; cases e
    · rw [hfree] at hc; cases hc
  rcases hx with hk | hk
  · refine wpAny_storeName_local hk hn (fun h' hn' hs => ?_) hcls
    obtain ⟨oL, _, _, hoL, _⟩ := id hn
    refine h _ ⟨I.ok, I.os, I.bare, ⟨fun b o e n hb hx => ?_, fun b o e n hb hx => ?_, I.base.free, fun b o e hx => ?_, I.base.tups, I.base.frzs, I.base.tbls⟩, ⟨_, hn', fun j y v' e1 e2 e3 => ?_⟩, fun y c e => ?_, I.free, I.freeC, fun p hp => ?_, tracked ⟨oL, hoL, I.free⟩ hs, by simpa using I.len⟩ ⟨_, hs, .inl rfl⟩
    · exact (hs.2 b (Nat.ne_of_lt (Nat.lt_of_lt_of_le (Heap.lt_size e) I.ok.above))).trans (I.base.keep b o e n hb hx)
    · obtain ⟨sl, e1⟩ := I.base.slot b o e n hb hx
      exact ⟨sl, (hs.2 b (Nat.ne_of_lt (Nat.lt_of_lt_of_le (Heap.lt_size e) I.ok.above))).trans e1⟩
    · obtain ⟨o', e1⟩ := I.base.there b o e hx
      exact ⟨o', (hs.2 b (Nat.ne_of_lt (Nat.lt_of_lt_of_le (Heap.lt_size e) I.ok.above))).trans e1⟩
    · by_cases hj : j = i
      · subst hj
        rw [hi] at e1; cases e1
        rw [List.getElem?_set_self hiσ] at e2
        cases e2
        exact ⟨u, r, .inl ⟨hk, by simp⟩⟩
      · rw [List.getElem?_set_ne (Ne.symm hj)] at e2
        obtain ⟨u', r', q⟩ := hl j y v' e1 e2 e3
        refine ⟨u', r', ?_⟩
        rcases q with ⟨k, e⟩ | ⟨k, c, e, z⟩
        · refine .inl ⟨k, ?_⟩
          have : y ≠ x := fun e => hj (nodup_ix hN e1 (e ▸ hi))
          simp [this, e]
        · exact .inr ⟨k, c, e, z.sameBut hs (cne y c e)⟩
    · obtain ⟨w', z⟩ := I.cell y c e
      exact ⟨w', z.sameBut hs (cne y c e)⟩
    · obtain ⟨e, n, ne, nf, d⟩ := I.pin p hp
      exact ⟨(hs.2 p.1 ne).trans e, n, ne, nf, d⟩
  · have hfn : X.fn x = true := by
      rcases hf with z | z
      · exact z
      · rw [z] at hk; cases hk
    obtain ⟨c, hc⟩ := I.ok.has x (.inl hk)
    obtain ⟨w', z⟩ := I.cell x c hc
    refine wpAny_storeName_cell I.ok.kind hk hc z (fun h' hc' hs => ?_)
    obtain ⟨oc, hoc, hocd⟩ := id z
    refine h { s with heap := h' } ⟨I.ok, I.os, I.bare, ⟨fun b o e n hb hx => ?_, fun b o e n hb hx => ?_, I.base.free, fun b o e hx => ?_, I.base.tups, I.base.frzs, I.base.tbls⟩, ⟨m, hn.sameBut hs (Ne.symm (cne x c hc)), fun j y v' e1 e2 e3 => ?_⟩, fun y c' e => ?_, I.free, I.freeC, fun p hp => ?_, tracked ⟨oc, hoc, I.freeC x c hc⟩ hs, by simpa using I.len⟩ ⟨c, hs, .inr hc⟩
    · exact (hs.2 b (Nat.ne_of_lt (Nat.lt_of_lt_of_le (Heap.lt_size e) (I.ok.cab x c hfn hc)))).trans (I.base.keep b o e n hb hx)
    · obtain ⟨sl, e1⟩ := I.base.slot b o e n hb hx
      exact ⟨sl, (hs.2 b (Nat.ne_of_lt (Nat.lt_of_lt_of_le (Heap.lt_size e) (I.ok.cab x c hfn hc)))).trans e1⟩
    · obtain ⟨o', e1⟩ := I.base.there b o e hx
      exact ⟨o', (hs.2 b (Nat.ne_of_lt (Nat.lt_of_lt_of_le (Heap.lt_size e) (I.ok.cab x c hfn hc)))).trans e1⟩
    · by_cases hj : j = i
      · subst hj
        rw [hi] at e1; cases e1
        rw [List.getElem?_set_self hiσ] at e2
        cases e2
        exact ⟨u, r, .inr ⟨.inl hk, c, hc, hc'⟩⟩
      · rw [List.getElem?_set_ne (Ne.symm hj)] at e2
        obtain ⟨u', r', q⟩ := hl j y v' e1 e2 e3
        refine ⟨u', r', ?_⟩
        rcases q with q | ⟨k, c', e, z'⟩
        · exact .inl q
        · refine .inr ⟨k, c', e, z'.sameBut hs ?_⟩
          rintro rfl
          exact hj (nodup_ix hN e1 (I.ok.inj _ _ _ e hc ▸ hi))
    · by_cases hcc : c' = c
      · subst hcc; exact ⟨_, hc'⟩
      · obtain ⟨w2, z2⟩ := I.cell y c' e
        exact ⟨w2, z2.sameBut hs hcc⟩
    · obtain ⟨e, n, ne, nf, d⟩ := I.pin p hp
      refine ⟨(hs.2 p.1 ?_).trans e, n, ne, nf, d⟩
      intro q
      rw [q, hoc] at e
      have q' : oc = p.2 := Option.some.inj e
      exact d w' (by rw [← q']; exact hocd)
theorem store_ok {M : Model} {A : Around} {E : Value → Shared → Prop} {i : Nat} {x : Str} {v : V} {u : Value} {Q : Unit → Shared → Prop} (I : Inv X pins σ H s) (hN : X.N.Nodup) (hi : X.N[i]? = some x) (hx : Loc X.env.scope x) (r : RelV v u)
    (h : ∀ s', Inv X pins (σ.set i (some v)) H s' → Q () s') (hf : X.fn x = true ∨ X.env.scope.names.lookup x = some .local := by first | exact .inl rfl | exact .inr rfl | assumption) : wpAny M A (storeName X.env x u) Q E s :=
  store_ok2 I hN hi hx r (fun s' I' _ => h s' I') hf
theorem Inv.call' {s' : Shared} {ch : List Addr} (I : Inv X pins σ H s) (ho : s'.os = s.os) (u : Un (frs X.stack) ch H H' s.heap s'.heap) (hok : HOk X.prog X.w H' s'.heap) (hg : AllBare s'.gens)
    (hch : ∀ b ∈ ch, (b ∈ X.ex ∨ X.s₀.heap.objs.size ≤ b) ∧ b ≠ X.env.locals ∧ (∀ x c, X.env.cells.lookup x = some c → c ≠ b) ∧ ∀ p ∈ X.pn ++ pins, p.1 ≠ b) : Inv X pins σ H' s' := by
  obtain ⟨h', g', d', t', o'⟩ := s'
  have e : o' = s.os := ho
  subst e
  exact I.call (g' := g') (t' := t') (d' := d') u hok hg hch
end
noncomputable abbrev XK := Value → Option Addr → Hp → Prop
noncomputable abbrev St := List (Option V)
noncomputable abbrev VK := V → Hp → Prop
noncomputable abbrev TE := St → Hp → VK → Prop
noncomputable abbrev TT := St → Hp → (Bool → Hp → Prop) → Prop
noncomputable abbrev TA := St → Hp → (List V → Hp → Prop) → Prop
structure Ends where
  nx : St → Hp → Prop
  rt : VK
  bk : St → Hp → Prop := fun _ _ => False
  ct : St → Hp → Prop := fun _ _ => False
noncomputable abbrev TS := Ends → St → Hp → Prop
noncomputable def EP (X : Cx) (pins : List (Addr × Obj)) (σ : St) (Q : VK) (u : Value) (s' : Shared) : Prop := ∃ v H', Inv X pins σ H' s' ∧ RelV v u ∧ Q v H'
noncomputable def TP (X : Cx) (pins : List (Addr × Obj)) (σ : St) (Q : Bool → Hp → Prop) (b : Bool) (s' : Shared) : Prop := ∃ H', Inv X pins σ H' s' ∧ Q b H'
noncomputable def AP (X : Cx) (pins : List (Addr × Obj)) (σ : St) (Q : List V → Hp → Prop) (us : List Value) (s' : Shared) : Prop := ∃ vs H', Inv X pins σ H' s' ∧ Vals vs us ∧ Q vs H'
noncomputable def SP (X : Cx) (pins : List (Addr × Obj)) (D : Ends) (f : Flow) (s' : Shared) : Prop :=
  match f with
  | .next => ∃ σ' H', Inv X pins σ' H' s' ∧ D.nx σ' H'
  | .brk => ∃ σ' H', Inv X pins σ' H' s' ∧ D.bk σ' H'
  | .cont => ∃ σ' H', Inv X pins σ' H' s' ∧ D.ct σ' H'
  | .ret u => ∃ v σ' H', Inv X pins σ' H' s' ∧ RelV v u ∧ D.rt v H'
noncomputable def PE (X : Cx) (e : Expr) (t : TE) : Prop :=
  ∀ (pins : List (Addr × Obj)) (s : Shared) (σ : St) (H : Hp) (Q : VK), Inv X pins σ H s → t σ H Q → wpAny (model X.prog X.w) X.A (eval e X.env) (EP X pins σ Q) X.xe s
noncomputable def PT (X : Cx) (e : Expr) (t : TT) : Prop :=
  ∀ (pins : List (Addr × Obj)) (s : Shared) (σ : St) (H : Hp) (Q : Bool → Hp → Prop), Inv X pins σ H s → t σ H Q → wpAny (model X.prog X.w) X.A (isTrue e X.env (eval e X.env)) (TP X pins σ Q) X.xe s
noncomputable def PW (X : Cx) (e : Expr) (t : TT) : Prop :=
  ∀ (whole : Sem Value) (pins : List (Addr × Obj)) (s : Shared) (σ : St) (H : Hp) (Q : Bool → Hp → Prop), Inv X pins σ H s → t σ H Q → wpAny (model X.prog X.w) X.A (isTrue e X.env whole) (TP X pins σ Q) X.xe s
theorem PW.pt {X : Cx} {e : Expr} {t : TT} (h : PW X e t) : PT X e t := h _
noncomputable def PA (X : Cx) (es : List Expr) (t : TA) : Prop :=
  ∀ (pos : Pos) (pins : List (Addr × Obj)) (s : Shared) (σ : St) (H : Hp) (Q : List V → Hp → Prop), Inv X pins σ H s → t σ H Q → wpAny (model X.prog X.w) X.A (spliced (backTo pos (starEach es X.env))) (AP X pins σ Q) X.xe s
noncomputable def PS (X : Cx) (st : Stmt) (t : TS) : Prop :=
  ∀ (pins : List (Addr × Obj)) (s : Shared) (σ : St) (H : Hp) (D : Ends), Inv X pins σ H s → t D σ H → wpAny (model X.prog X.w) X.A (exec st X.env) (SP X pins D) X.xe s
noncomputable def PSs (X : Cx) (st : List Stmt) (t : TS) : Prop :=
  ∀ (pins : List (Addr × Obj)) (s : Shared) (σ : St) (H : Hp) (D : Ends), Inv X pins σ H s → t D σ H → wpAny (model X.prog X.w) X.A (execs st X.env) (SP X pins D) X.xe s
theorem thn {α : Type} {t : Sem α} {Q Q' : α → Shared → Prop} {M : Model} {A : Around} {E : Value → Shared → Prop} {s : Shared} (h : wpAny M A t Q E s) (hQ : ∀ a s, Q a s → Q' a s) : wpAny M A t Q' E s := wpAny_mono h hQ fun _ _ x => x
end L2
namespace L2
open PySem PySem.Spec PyProof.Rows
section
variable {X : Cx}
noncomputable def tVar (i : Nat) : TE := fun σ H Q => ∃ v, σ[i]? = some (some v) ∧ Q v H
noncomputable def tC (v : V) : TE := fun _ H Q => Q v H
theorem pe_var {i : Nat} {x : Str} {pos : Pos} (hN : X.N[i]? = some x) (hv : Vis X.env.scope x) (hd : (x == ("__debug__" : Str)) = false := by decide) (hcd : (x == ("__classdict__" : Str)) = false := by decide) : PE X (.Name x pos) (tVar i) := by
  intro pins s σ H Q I h
  obtain ⟨v, e, h⟩ := h
  obtain ⟨m, hn, hl⟩ := I.loc
  obtain ⟨u, r, l⟩ := hl i x v hN e hv
  have fin : EP X pins σ Q u s := ⟨v, H, I, r, h⟩
  rcases l with ⟨hk, hm⟩ | ⟨hk, c, hc, hcell⟩
  · exact wpAny_Name (wpAny_loadName_local I.ok.kind hk hn hm fin) hd
  · rcases hk with hk | hk
    · exact wpAny_Name (wpAny_loadName_cell I.ok.kind hk hc hcell fin) hd
    · exact wpAny_Name (wpAny_loadName_free I.ok.kind hk hc hcell fin hcd) hd
theorem pe_int {i j pos} : PE X (.Constant (.int i) j pos) (tC (.int i)) := fun _ _ _ H _ I h => wpAny_Constant_int ⟨.int i, H, I.tok _, ⟨_, rfl⟩, h⟩
theorem pe_bl {b j pos} : PE X (.Constant (.bool b) j pos) (tC (.bl b)) := fun _ _ _ H _ I h => Constant_bool ⟨.bl b, H, I, rfl, h⟩
theorem pe_str {x j pos} : PE X (.Constant (.str x) j pos) (tC (.str x)) := fun _ _ _ H _ I h => Calls.Constant_str ⟨.str x, H, I.tok _, ⟨_, rfl⟩, h⟩
noncomputable def Gl (X : Cx) (x : Str) : Prop := X.env.kindOf x = some .globalImplicit
theorem ld_glob {E : Value → Shared → Prop} {pins : List (Addr × Obj)} {s : Shared} {σ : St} {H : Hp} {x : Str} {u : Value} {pos : Pos} {Q : Value → Shared → Prop} (I : Inv X pins σ H s) (hg : Gl X x) (hm : X.mg x = some u) (h : Q u s)
    (hd : (x == ("__debug__" : Str)) = false := by decide) : wpAny (model X.prog X.w) X.A (eval (.Name x pos) X.env) Q E s :=
  Calls.Name_function_global I.ok.kind hg (Calls.loadGlobal_global (by rw [I.ok.glob]; exact I.mod.glob.keeps I.bk) hm h) hd
theorem ld_blt {E : Value → Shared → Prop} {pins : List (Addr × Obj)} {s : Shared} {σ : St} {H : Hp} {x : Str} {u : Value} {pos : Pos} {Q : Value → Shared → Prop} (I : Inv X pins σ H s) (hg : Gl X x) (hm : X.mg x = none) (hv : bootBuiltins x = some u) (h : Q u s)
    (hn : x ≠ "__name__" := by decide) (hd : (x == ("__debug__" : Str)) = false := by decide) : wpAny (model X.prog X.w) X.A (eval (.Name x pos) X.env) Q E s := by
  obtain ⟨mb, h1, h2⟩ := I.mod.blt
  exact Calls.Name_function_global I.ok.kind hg (Calls.loadGlobal_builtin (by rw [I.ok.glob]; exact I.mod.glob.keeps I.bk) hm (by rw [I.ok.blt]; exact h1.keeps I.bk) ((h2 x hn).trans hv) h) hd
theorem pe_glob {x : Str} {v : V} {u : Value} {pos : Pos} (hg : Gl X x) (hm : X.mg x = some u) (r : RelV v u) (hd : (x == ("__debug__" : Str)) = false := by decide) : PE X (.Name x pos) (tC v) :=
  fun _ _ _ H _ I h => ld_glob I hg hm ⟨v, H, I, r, h⟩ hd
theorem pe_bltn {x : Str} {v : V} {u : Value} {pos : Pos} (hg : Gl X x) (hm : X.mg x = none) (hv : bootBuiltins x = some u) (r : RelV v u) (hn : x ≠ "__name__" := by decide) (hd : (x == ("__debug__" : Str)) = false := by decide) : PE X (.Name x pos) (tC v) :=
  fun _ _ _ H _ I h => ld_blt I hg hm hv ⟨v, H, I, r, h⟩ hn hd
variable {a b : Expr} {ta tb : TE} {pos : Pos}
variable {tA tB' : TT} {rest : List Expr}
noncomputable def tAnd (t u : TT) : TT := fun σ H Q => t σ H fun c H1 => if c = true then u σ H1 Q else Q false H1
noncomputable def tOr (t u : TT) : TT := fun σ H Q => t σ H fun c H1 => if c = true then Q true H1 else u σ H1 Q
noncomputable def tNot (t : TT) : TT := fun σ H Q => t σ H fun c H1 => Q (!c) H1
theorem pw_and1 (ha : PT X a tA) : PW X (.BoolOp .And [a] pos) tA := by
  intro wh pins s σ H Q I h
  refine isTrue_and (thn (ha pins s σ H Q I h) fun c s1 e => ?_)
  cases c with
  | true => exact isTrue_and_nil e
  | false => exact e
theorem pw_or1 (ha : PT X a tA) : PW X (.BoolOp .Or [a] pos) tA := by
  intro wh pins s σ H Q I h
  refine isTrue_or (thn (ha pins s σ H Q I h) fun c s1 e => ?_)
  cases c with
  | false => exact isTrue_or_nil e
  | true => exact e
theorem pw_and (ha : PT X a tA) (hb : PW X (.BoolOp .And (b :: rest) pos) tB') : PW X (.BoolOp .And (a :: b :: rest) pos) (tAnd tA tB') := by
  intro wh pins s σ H Q I h
  refine isTrue_and (thn (ha pins s σ H _ I h) fun c s1 ⟨H1, I1, q1⟩ => ?_)
  cases c with
  | true => exact hb wh pins s1 σ H1 Q I1 q1
  | false => exact ⟨H1, I1, q1⟩
theorem pw_or (ha : PT X a tA) (hb : PW X (.BoolOp .Or (b :: rest) pos) tB') : PW X (.BoolOp .Or (a :: b :: rest) pos) (tOr tA tB') := by
  intro wh pins s σ H Q I h
  refine isTrue_or (thn (ha pins s σ H _ I h) fun c s1 ⟨H1, I1, q1⟩ => ?_)
  cases c with
  | true => exact ⟨H1, I1, q1⟩
  | false => exact hb wh pins s1 σ H1 Q I1 q1
theorem pt_not (ha : PT X a tA) : PT X (.UnaryOp .Not a pos) (tNot tA) := by
  intro pins s σ H Q I h
  exact isTrue_not (ha pins s σ H (fun c H1 => Q (!c) H1) I h)
noncomputable def tAndV (ta tb : TE) : TE := fun σ H Q => ta σ H fun x H1 => ∃ c, x = .bl c ∧ if c = true then tb σ H1 Q else Q (.bl false) H1
noncomputable def tNotV (ta : TE) : TE := fun σ H Q => ta σ H fun x H1 => ∃ c, x = .bl c ∧ Q (.bl (!c)) H1
theorem pe_one {op} {t : TE} (h : PE X a t) : PE X (.BoolOp op [a] pos) t := fun pins s σ H Q I hw => BoolOp_one (h pins s σ H Q I hw)
theorem pe_and (ha : PE X a ta) (hb : PE X (.BoolOp .And (b :: rest) pos) tb) : PE X (.BoolOp .And (a :: b :: rest) pos) (tAndV ta tb) := by
  intro pins s σ H Q I h
  refine BoolOp_and (thn (ha pins s σ H _ I h) fun v s1 ⟨x, H1, I1, r1, q1⟩ => ?_)
  obtain ⟨c, rfl, q1⟩ := q1
  cases r1
  refine wpAny_truthy_bool ?_
  cases c with
  | true => exact hb pins s1 σ H1 Q I1 q1
  | false => exact ⟨.bl false, H1, I1, rfl, q1⟩
theorem pe_not (ha : PE X a ta) : PE X (.UnaryOp .Not a pos) (tNotV ta) := by
  intro pins s σ H Q I h
  refine UnaryOp_ (thn (ha pins s σ H _ I h) fun v s1 ⟨x, H1, I1, r1, q1⟩ => ?_)
  obtain ⟨c, rfl, q1⟩ := q1
  cases r1
  exact not_of (wpAny_truthy_bool ⟨.bl (!c), H1, I1, rfl, q1⟩)
noncomputable def tIf (t : TT) (ta tb : TE) : TE := fun σ H Q => t σ H fun c H1 => if c = true then ta σ H1 Q else tb σ H1 Q
theorem pe_ifExp {c : Expr} (hc : PT X c tA) (ha : PE X a ta) (hb : PE X b tb) : PE X (.IfExp c a b pos) (tIf tA ta tb) := by
  intro pins s σ H Q I h
  refine wpAny_IfExp (thn (hc pins s σ H _ I h) fun d s1 ⟨H1, I1, q1⟩ => ?_)
  cases d with
  | true => exact ha pins s1 σ H1 Q I1 q1
  | false => exact hb pins s1 σ H1 Q I1 q1
end
end L2
namespace L2
open PySem PySem.Spec PyProof.Rows
noncomputable def SqL (K : PySem.W.Frag) (H : Hp) (a : Addr) (xs : List V) : Prop :=
  Rd H a (.lst xs) ∨
    ∃ (o : Obj) (its : Array Value) (n : Nat), K.lookup a = some o ∧ o.cls = .type "list" ∧ o.dict = none ∧ o.data = .seq its n ∧ its.size ≤ sizeLine ∧ Vals xs its.toList
noncomputable def SqT (K : PySem.W.Frag) (H : Hp) (a : Addr) (xs : List V) : Prop :=
  Rd H a (.tup xs) ∨
    ∃ (o : Obj) (its : Array Value) (n : Nat), K.lookup a = some o ∧ o.cls = .type "tuple" ∧ o.data = .seq its n ∧ its.size ≤ sizeLine ∧ Vals xs its.toList
noncomputable def absV : Value → Option V
  | .none => some .non
  | .bool b => some (.bl b)
  | .int i _ => some (.int i)
  | .str x _ => some (.str x)
  | .bytes b _ => some (.byt b)
  | .float b _ => some (.flt b)
  | .ref a => some (.ref a)
  | .type n => some (.ty n)
  | _ => none
theorem RelV.abs {x : V} {u : Value} (r : RelV x u) : absV u = some x := by
  cases x with
  | non => cases r; rfl
  | bl _ => cases r; rfl
  | int _ => obtain ⟨t, rfl⟩ := r; rfl
  | str _ => obtain ⟨t, rfl⟩ := r; rfl
  | byt _ => obtain ⟨t, rfl⟩ := r; rfl
  | flt _ => obtain ⟨t, rfl⟩ := r; rfl
  | ref _ => cases r; rfl
  | ty _ => cases r; rfl
theorem RelV.inj {x y : V} {u : Value} (r : RelV x u) (q : RelV y u) : x = y := Option.some.inj (r.abs.symm.trans q.abs)
theorem Vals.inj : ∀ {xs ys : List V} {us : List Value}, Vals xs us → Vals ys us → xs = ys
  | _, _, _, .nil, .nil => rfl
  | _, _, _, .cons r t, .cons r' t' => by rw [r.inj r', Vals.inj t t']
section
variable {X : Cx} {pins : List (Addr × Obj)} {σ : St} {H : Hp} {s : Shared} {a : Addr} {xs ys : List V}
theorem SqL.of {K : PySem.W.Frag} (h : H a = some (.lst xs)) : SqL K H a xs := .inl (.inl h)
theorem SqT.of {K : PySem.W.Frag} (h : H a = some (.tup xs)) : SqT K H a xs := .inl (.inl h)
theorem Inv.list (I : Inv X pins σ H s) (h : SqL X.K H a xs) : ∃ its : List Value, Vals xs its ∧ PlainL s.heap a its.toArray ∧ xs.length ≤ sizeLine := by
  rcases h with h | ⟨o, its, n, hk, hc, hd, hs, hz, r⟩
  · obtain ⟨z, its, n, r, e⟩ := h.ok I.hok
    exact ⟨its, r, ⟨_, n, e, rfl, rfl, rfl⟩, z⟩
  · refine ⟨its.toList, r, ⟨o, n, I.kIn a o hk, hc, hd, by simpa using hs⟩, ?_⟩
    have e := r.length
    simp only [Array.length_toList] at e
    omega
theorem Inv.tuple (I : Inv X pins σ H s) (h : SqT X.K H a xs) : ∃ its : List Value, Vals xs its ∧ IsTup s.heap a its.toArray ∧ xs.length ≤ sizeLine := by
  rcases h with h | ⟨o, its, n, hk, hc, hs, hz, r⟩
  · obtain ⟨z, its, r, p⟩ := h.ok I.hok
    exact ⟨its, r, p.tup, z⟩
  · refine ⟨its.toList, r, ⟨o, I.kIn a o hk, hc, n, by simpa using hs⟩, ?_⟩
    have e := r.length
    simp only [Array.length_toList] at e
    omega
theorem Inv.list_inj (I : Inv X pins σ H s) (h : SqL X.K H a xs) (h' : SqL X.K H a ys) : xs = ys := by
  obtain ⟨its, r, ⟨o, n, e, _, _, d⟩, _⟩ := I.list h
  obtain ⟨its', r', ⟨o', n', e', _, _, d'⟩, _⟩ := I.list h'
  rw [e] at e'; cases e'
  rw [d] at d'
  injection d' with d1 _
  have : its = its' := by simpa using congrArg Array.toList d1
  subst this
  exact r.inj r'
theorem Inv.tuple_inj (I : Inv X pins σ H s) (h : SqT X.K H a xs) (h' : SqT X.K H a ys) : xs = ys := by
  obtain ⟨its, r, ⟨o, e, _, n, d⟩, _⟩ := I.tuple h
  obtain ⟨its', r', ⟨o', e', _, n', d'⟩, _⟩ := I.tuple h'
  rw [e] at e'; cases e'
  rw [d] at d'
  injection d' with d1 _
  have : its = its' := by simpa using congrArg Array.toList d1
  subst this
  exact r.inj r'
end
noncomputable abbrev Cx.wish (X : Cx) (E : Value → Shared → Prop) : Cx := { X with xe := E }
noncomputable abbrev Cx.nox (X : Cx) : Cx := X.wish fun _ _ => False
theorem Cx.Ok.wish {X : Cx} (ok : X.Ok) (E : Value → Shared → Prop) : (X.wish E).Ok :=
  ⟨ok.mod, ok.kind, ok.glob, ok.blt, ok.above, ok.inj, ok.has, ok.cab, ok.hd, ok.frames, ok.stk, ok.exf, ok.bs, ok.bsz, ok.noex, ok.exfs, ok.funs, ok.frf⟩
theorem Cx.Ok.unwish {X : Cx} {E : Value → Shared → Prop} (ok : (X.wish E).Ok) : X.Ok :=
  ⟨ok.mod, ok.kind, ok.glob, ok.blt, ok.above, ok.inj, ok.has, ok.cab, ok.hd, ok.frames, ok.stk, ok.exf, ok.bs, ok.bsz, ok.noex, ok.exfs, ok.funs, ok.frf⟩
section
variable {X : Cx} {pins : List (Addr × Obj)} {σ : St} {H : Hp} {s : Shared} {E : Value → Shared → Prop}
theorem Inv.wish (I : Inv X pins σ H s) (E : Value → Shared → Prop) : Inv (X.wish E) pins σ H s := ⟨I.ok.wish E, I.os, I.bare, I.base, I.loc, I.cell, I.free, I.freeC, I.pin, I.hok, I.len⟩
theorem Inv.unwish (I : Inv (X.wish E) pins σ H s) : Inv X pins σ H s := ⟨I.ok.unwish, I.os, I.bare, I.base, I.loc, I.cell, I.free, I.freeC, I.pin, I.hok, I.len⟩
theorem SP.unwish {D : Ends} {f : Flow} {s' : Shared} (h : SP (X.wish E) pins D f s') : SP X pins D f s' := by
  cases f with
  | next => obtain ⟨σ', H', I, q⟩ := h; exact ⟨σ', H', I.unwish, q⟩
  | brk => obtain ⟨σ', H', I, q⟩ := h; exact ⟨σ', H', I.unwish, q⟩
  | cont => obtain ⟨σ', H', I, q⟩ := h; exact ⟨σ', H', I.unwish, q⟩
  | ret u => obtain ⟨v, σ', H', I, r, q⟩ := h; exact ⟨v, σ', H', I.unwish, r, q⟩
theorem PE.nox {e : Expr} {t : TE} (h : PE X.nox e t) : PE X e t := fun pins s σ H Q I hw =>
  wpAny_mono (h pins s σ H Q (I.wish _) hw) (fun _ _ ⟨v, H', I', r, q⟩ => ⟨v, H', I'.unwish, r, q⟩) fun _ _ z => False.elim z
theorem PT.nox {e : Expr} {t : TT} (h : PT X.nox e t) : PT X e t := fun pins s σ H Q I hw =>
  wpAny_mono (h pins s σ H Q (I.wish _) hw) (fun _ _ ⟨H', I', q⟩ => ⟨H', I'.unwish, q⟩) fun _ _ z => False.elim z
theorem PSs.nox {st : List Stmt} {t : TS} (h : PSs X.nox st t) : PSs X st t := fun pins s σ H D I hw =>
  wpAny_mono (h pins s σ H D (I.wish _) hw) (fun _ _ q => q.unwish) fun _ _ z => False.elim z
end
section
variable {X : Cx} {st : Stmt} {rest : List Stmt} {t u : TS} {e : Expr} {te : TE} {pos : Pos}
noncomputable def tNext : TS := fun D σ H => D.nx σ H
noncomputable def tSeq (t u : TS) : TS := fun D σ H => t { D with nx := u D } σ H
theorem pss_nil : PSs X [] tNext := fun _ _ σ H _ I h => wpAny_execs_nil ⟨σ, H, I, h⟩
theorem pss_cons (h1 : PS X st t) (h2 : PSs X rest u) : PSs X (st :: rest) (tSeq t u) := by
  intro pins s σ H D I h
  refine wpAny_execs_cons (thn (h1 pins s σ H { D with nx := u D } I h) fun f s1 q => ?_)
  cases f with
  | next =>
    obtain ⟨σ', H', I', q⟩ := q
    exact h2 pins s1 σ' H' D I' q
  | ret v => exact q
  | brk => exact q
  | cont => exact q
theorem pss_one (h1 : PS X st t) : PSs X [st] t := by
  intro pins s σ H D I h
  refine wpAny_execs_cons (thn (h1 pins s σ H D I h) fun f s1 q => ?_)
  cases f with
  | next => exact wpAny_execs_nil q
  | ret v => exact q
  | brk => exact q
  | cont => exact q
theorem Inv.quiet {pins : List (Addr × Obj)} {σ : St} {H : Hp} {s : Shared} (I : Inv X pins σ H s) : interactive X.env = false := by simp [interactive, I.ok.kind]
noncomputable def tDrop (te : TE) : TS := fun D σ H => te σ H fun _ H1 => D.nx σ H1
theorem ps_expr (he : PE X e te) (hs : swapsWith e none pos.line X.env = pure false := by rfl) : PS X (.Expr e pos) (tDrop te) := by
  intro pins s σ H D I h
  exact wpAny_Expr_any (thn (he pins s σ H _ I h) fun v s1 ⟨x, H1, I1, r1, q1⟩ => ⟨σ, H1, I1, q1⟩) I.quiet hs
noncomputable def tRet (te : TE) : TS := fun D σ H => te σ H D.rt
theorem ps_ret (he : PE X e te) : PS X (.Return (some e) pos) (tRet te) := by
  intro pins s σ H D I h
  exact wpAny_Return_some (thn (he pins s σ H _ I h) fun v s1 ⟨x, H1, I1, r1, q1⟩ => ⟨x, σ, H1, I1, r1, q1⟩)
noncomputable def tIfS (c : TT) (t u : TS) : TS := fun D σ H => c σ H fun b H1 => if b = true then t D σ H1 else u D σ H1
theorem ps_if {c : Expr} {a b : List Stmt} {tc : TT} (hc : PT X c tc) (ha : PSs X a t) (hb : PSs X b u) : PS X (.If c a b pos) (tIfS tc t u) := by
  intro pins s σ H D I h
  refine wpAny_If (thn (hc pins s σ H _ I h) fun d s1 ⟨H1, I1, q1⟩ => ?_)
  cases d with
  | true => exact ha pins s1 σ H1 D I1 q1
  | false => exact hb pins s1 σ H1 D I1 q1
noncomputable def tNever : TS := fun _ _ _ => False
theorem ps_never : PS X st tNever := fun _ _ _ _ _ _ h => h.elim
end
noncomputable abbrev TG := V → St → Hp → (St → Hp → Prop) → Prop
noncomputable abbrev TGs := List V → St → Hp → (St → Hp → Prop) → Prop
noncomputable def PG (X : Cx) (target : Expr) (t : TG) : Prop :=
  ∀ (pins : List (Addr × Obj)) (s : Shared) (σ : St) (H : Hp) (v : V) (u : Value) (Q : St → Hp → Prop), Inv X pins σ H s → RelV v u → t v σ H Q →
    wpAny (model X.prog X.w) X.A (assign target X.env u) (fun _ s' => ∃ σ' H', Inv X pins σ' H' s' ∧ Q σ' H') X.xe s
noncomputable def PGs (X : Cx) (ts : List Expr) (t : TGs) : Prop :=
  ∀ (pins : List (Addr × Obj)) (s : Shared) (σ : St) (H : Hp) (vs : List V) (us : List Value) (Q : St → Hp → Prop), Inv X pins σ H s → Vals vs us → t vs σ H Q →
    wpAny (model X.prog X.w) X.A (assignInOrder ((assignEach ts X.env).map (·.2)) us) (fun _ s' => ∃ σ' H', Inv X pins σ' H' s' ∧ Q σ' H') X.xe s
noncomputable abbrev TSet := V → V → V → Hp → (Hp → Prop) → Prop
noncomputable def PSet (X : Cx) (t : TSet) : Prop :=
  ∀ (pins : List (Addr × Obj)) (s : Shared) (σ : St) (H : Hp) (o i v : V) (ov iv u : Value) (Q : Hp → Prop), Inv X pins σ H s → RelV o ov → RelV i iv → RelV v u → t o i v H Q →
    wpAny (model X.prog X.w) X.A (setItem ov iv u) (fun _ s' => ∃ H', Inv X pins σ H' s' ∧ Q H') X.xe s
noncomputable abbrev TIp := V → V → Hp → VK → Prop
noncomputable def PIp (X : Cx) (op : Operator) (t : TIp) : Prop :=
  ∀ (pins : List (Addr × Obj)) (s : Shared) (σ : St) (H : Hp) (x y : V) (v u : Value) (Q : VK), Inv X pins σ H s → RelV x v → RelV y u → t x y H Q →
    wpAny (model X.prog X.w) X.A (inplaceOp op v u) (EP X pins σ Q) X.xe s
section
variable {X : Cx} {pos : Pos}
noncomputable def gName (i : Nat) : TG := fun v σ H Q => Q (σ.set i (some v)) H
theorem pg_name {i : Nat} {x : Str} (hN : X.N.Nodup) (hi : X.N[i]? = some x) (hx : Loc X.env.scope x) (hf : X.fn x = true ∨ X.env.scope.names.lookup x = some .local := by first | exact .inl rfl | exact .inr rfl | assumption) : PG X (.Name x pos) (gName i) := by
  intro pins s σ H v u Q I r h
  exact wpAny_assign_Name (store_ok I hN hi hx r (fun s' I' => ⟨_, H, I', h⟩) hf)
noncomputable def gNil : TGs := fun vs σ H Q => vs = [] ∧ Q σ H
noncomputable def gCons (t : TG) (u : TGs) : TGs := fun vs σ H Q => ∃ v r, vs = v :: r ∧ t v σ H fun σ' H' => u r σ' H' Q
theorem pgs_nil : PGs X [] gNil := by
  intro pins s σ H vs us Q I r h
  obtain ⟨e, h⟩ := h
  subst e
  cases r
  exact assignInOrder_nil ⟨σ, H, I, h⟩
theorem pgs_cons {e : Expr} {es : List Expr} {t : TG} {u : TGs} (h1 : PG X e t) (h2 : PGs X es u)
    (hs : (assignEach (e :: es) X.env).map (·.2) = assign e X.env :: (assignEach es X.env).map (·.2) := by rfl) : PGs X (e :: es) (gCons t u) := by
  intro pins s σ H vs us Q I r h
  obtain ⟨v, vr, e1, h⟩ := h
  subst e1
  cases r with
  | cons r rr =>
    rw [hs]
    refine assignInOrder_cons (thn (h1 pins s σ H _ _ _ I r h) fun _ s1 ⟨σ1, H1, I1, q1⟩ => ?_)
    exact h2 pins s1 σ1 H1 _ _ Q I1 rr q1
noncomputable def gTup (K : PySem.W.Frag) (n : Nat) (t : TGs) : TG := fun v σ H Q => ∃ a xs, v = .ref a ∧ SqT K H a xs ∧ xs.length = n ∧ t xs σ H Q
theorem pg_tup {es : List Expr} {k : Nat} {t : TGs} {n : Nat} (hc : X.calm = true) (h : PGs X es t)
    (hn : (assignEach es X.env).length = n := by rfl) (hst : (assignEach es X.env).findIdx? (·.1) = none := by rfl) : PG X (.Tuple es k pos) (gTup X.K n t) := by
  intro pins s σ H v u Q I r hw
  obtain ⟨a, xs, e1, hq, hl, hw⟩ := hw
  subst e1
  cases r
  obtain ⟨its, rv, ht, hz⟩ := I.tuple hq
  refine assign_Tuple_tuple (I.ok.hd hc) ht (by simp [hn, ← hl, rv.length]) hst fun h' hx => ?_
  have I1 : Inv X pins σ H { s with heap := h' } := I.kept (t' := s.toks) fun b o e => hx b o (Nat.ne_of_lt (Heap.lt_size e)) e
  exact h pins _ σ H xs _ Q I1 (by simpa using rv) hw
noncomputable def gSub (to ti : TE) (t : TSet) : TG := fun v σ H Q => to σ H fun o H1 => ti σ H1 fun i H2 => t o i v H2 fun H3 => Q σ H3
theorem pg_sub {o i : Expr} {to ti : TE} {t : TSet} (ho : PE X o to) (hi : PE X i ti) (hs : PSet X t)
    (ha : ∀ v, assign (.Subscript o i pos) X.env v = (do
      let ov ← holding [v] (eval o X.env)
      let iv ← holding [v, ov] (eval i X.env)
      standAt pos
      holding [v, ov, iv] (setItem ov iv v)
      release [v, ov, iv] []) := by intro _; rfl) : PG X (.Subscript o i pos) (gSub to ti t) := by
  intro pins s σ H v u Q I r h
  rw [ha]
  refine wpAny_bind (wpAny_holding (thn (ho pins s σ H _ I h) fun ov s1 ⟨x, H1, I1, r1, q1⟩ => ?_))
  refine wpAny_bind (wpAny_holding (thn (hi pins s1 σ H1 _ I1 q1) fun iv s2 ⟨y, H2, I2, r2, q2⟩ => ?_))
  refine wpAny_bind (wpAny_standAt (wpAny_bind (wpAny_holding (thn (hs pins s2 σ H2 x y v ov iv u _ I2 r1 r2 r q2) fun _ s3 ⟨H3, I3, q3⟩ => ?_))))
  exact wpAny_release ⟨σ, H3, I3, q3⟩
noncomputable def tAsg (te : TE) (g : TG) : TS := fun D σ H => te σ H fun x H1 => g x σ H1 D.nx
theorem ps_asg {tg e : Expr} {te : TE} {g : TG} (he : PE X e te) (hg : PG X tg g) (hs : swapsWithSole [tg] e pos.line X.env = pure false := by rfl) (hw : swappedStores [tg] e X.env = pure none := by rfl)
    (h1 : (assignEach [tg] X.env).map (·.2) = [assign tg X.env] := by rfl) : PS X (.Assign [tg] e pos) (tAsg te g) := by
  intro pins s σ H D I h
  refine wpAny_Assign_stores (thn (he pins s σ H _ I h) fun v s1 ⟨x, H1, I1, r1, q1⟩ => ?_) hs hw
  rw [h1]
  exact thn (hg pins s1 σ H1 x v _ I1 r1 q1) fun _ s2 q => q
theorem ps_set {i : Nat} {x : Str} {e : Expr} {te : TE} {pos' : Pos} (hN : X.N.Nodup) (hi : X.N[i]? = some x) (hx : Loc X.env.scope x) (he : PE X e te) (hs : swapsWith e (some (.Name x pos')) pos.line X.env = pure false := by rfl) (hf : X.fn x = true ∨ X.env.scope.names.lookup x = some .local := by first | exact .inl rfl | exact .inr rfl | assumption) :
    PS X (.Assign [.Name x pos'] e pos) (tAsg te (gName i)) := by
  intro pins s σ H D I h
  refine wpAny_Assign_Name (thn (he pins s σ H _ I h) fun v s1 ⟨y, H1, I1, r1, q1⟩ => ?_) hs
  exact store_ok I1 hN hi hx r1 (fun s2 I2 => ⟨_, H1, I2, q1⟩) hf
noncomputable def tPar (i j : Nat) (ta : TA) : TS := fun D σ H => ta σ H fun vs H1 => ∃ v w, vs = [v, w] ∧ D.nx ((σ.set i (some v)).set j (some w)) H1
theorem ps_par {i j : Nat} {x y : Str} {a b : Expr} {ta : TA} {px py pt : Pos} {kt k2 pt2} (hc : X.calm = true) (hN : X.N.Nodup) (hi : X.N[i]? = some x) (hj : X.N[j]? = some y) (hij : i ≠ j)
    (hx : X.env.scope.names.lookup x = some .local) (hy : X.env.scope.names.lookup y = some .local) (ha : PA X [a, b] ta)
    (hw : swappedStores [.Tuple [.Name x px, .Name y py] kt pt] (.Tuple [a, b] k2 pt2) X.env = pure (some [x, y]))
    (hs : swapsWithSole [.Tuple [.Name x px, .Name y py] kt pt] (.Tuple [a, b] k2 pt2) pos.line X.env = pure false := by rfl) :
    PS X (.Assign [.Tuple [.Name x px, .Name y py] kt pt] (.Tuple [a, b] k2 pt2) pos) (tPar i j ta) := by
  intro pins s σ H D I h
  rw [exec_Assign_arm]
  refine wpAny_bind (wpAny_standAt ?_)
  rw [hs]
  refine wpAny_bind (wpAny_pure ?_)
  rw [if_neg (by decide)]
  refine wpAny_bind (Tuple_ (thn (ha _ pins s σ H _ I h) fun us s1 ⟨vs, H1, I1, r1, q1⟩ => ?_))
  obtain ⟨v, w, e1, q1⟩ := q1
  subst e1
  obtain ⟨u1, u2, rfl, rv, rw'⟩ : ∃ u1 u2, us = [u1, u2] ∧ RelV v u1 ∧ RelV w u2 := by
    cases r1 with
    | cons p q =>
      cases q with
      | cons p' q' =>
        cases q'
        exact ⟨_, _, rfl, p, p'⟩
  refine wpAny_newObj_type ?_ (by show 2 ≤ sizeLine; decide)
  have I2 : Inv X pins σ H1 { s1 with heap := s1.heap.push { cls := .type "tuple", data := .seq [u1, u2].toArray } } := I1.kept (t' := s1.toks) fun b o e => Heap.get?_push_of_some _ e
  rw [hw]
  refine wpAny_bind (wpAny_pure ?_)
  show wpAny (model X.prog X.w) X.A (do rule "assign.swapped-stores"; let items ← unpackItems (.ref s1.heap.objs.size) 2 none; assignInOrder [fun v => bindName X.env y v, fun v => bindName X.env x v] items.reverse; pure Flow.next) _ _ _
  refine wpAny_bind (wpAny_rule (wpAny_bind (unpackItems_tuple (items := #[u1, u2]) (I.ok.hd hc) (IsTup.new s1.heap _) fun h' hx' => ?_)))
  have I3 := I2.kept (h' := h') (t' := s1.toks) fun b o e => hx' b o (Nat.ne_of_lt (Heap.lt_size e)) e
  show wpAny _ _ (assignInOrder [fun v => bindName X.env y v, fun v => bindName X.env x v] [u2, u1] >>= fun _ => pure Flow.next) _ _ _
  refine wpAny_bind (assignInOrder_cons (wpAny_bindName (store_ok I3 hN hj (.inl hy) rw' (fun s2 I4 => ?_) (.inr hy))))
  refine assignInOrder_cons (wpAny_bindName (store_ok I4 hN hi (.inl hx) rv (fun s3 I5 => assignInOrder_nil (wpAny_pure ?_)) (.inr hx)))
  rw [List.set_comm _ _ (Ne.symm hij)] at I5
  exact ⟨_, H1, I5, q1⟩
noncomputable def tAugS (to ti te : TE) (tget : V → V → Hp → VK → Prop) (tip : TIp) (tset : TSet) : TS := fun D σ H => to σ H fun o H1 => ti σ H1 fun i H2 => tget o i H2 fun x H3 => te σ H3 fun y H4 => tip x y H4 fun z H5 => tset o i z H5 fun H6 => D.nx σ H6
noncomputable def PGet (X : Cx) (t : V → V → Hp → VK → Prop) : Prop :=
  ∀ (pins : List (Addr × Obj)) (s : Shared) (σ : St) (H : Hp) (o i : V) (ov iv : Value) (Q : VK), Inv X pins σ H s → RelV o ov → RelV i iv → t o i H Q →
    wpAny (model X.prog X.w) X.A (getItem ov iv) (EP X pins σ Q) X.xe s
theorem ps_augS {o i e : Expr} {to ti te : TE} {tget : V → V → Hp → VK → Prop} {tip : TIp} {tset : TSet} {op : Operator} {tpos : Pos} (ho : PE X o to) (hi : PE X i ti) (hg : PGet X tget) (he : PE X e te) (hp : PIp X op tip) (hs : PSet X tset)
    (ha : ∀ ov iv new, augStore i ov iv new = (do holding [new, ov, iv] (setItem ov iv new); release [new, ov, iv] []; pure .next) := by intros; rfl) : PS X (.AugAssign (.Subscript o i tpos) op e pos) (tAugS to ti te tget tip tset) := by
  intro pins s σ H D I h
  refine wpAny_AugAssign_SubscriptAny (thn (ho pins s σ H _ I h) fun ov s1 ⟨x1, H1, I1, r1, q1⟩ => ?_) ha
  refine thn (hi pins s1 σ H1 _ I1 q1) fun iv s2 ⟨x2, H2, I2, r2, q2⟩ => ?_
  refine thn (hg pins s2 σ H2 x1 x2 ov iv _ I2 r1 r2 q2) fun old s3 ⟨x3, H3, I3, r3, q3⟩ => ?_
  refine thn (he pins s3 σ H3 _ I3 q3) fun v s4 ⟨x4, H4, I4, r4, q4⟩ => ?_
  refine thn (hp pins s4 σ H4 x3 x4 old v _ I4 r3 r4 q4) fun new s5 ⟨x5, H5, I5, r5, q5⟩ => ?_
  exact thn (hs pins s5 σ H5 x1 x2 x5 ov iv new _ I5 r1 r2 r5 q5) fun _ s6 ⟨H6, I6, q6⟩ => ⟨σ, H6, I6, q6⟩
noncomputable def ipI (f : Int → Int → Int) : TIp := fun x y H Q => ∃ i j, x = .int i ∧ y = .int j ∧ Q (.int (f i j)) H
theorem ip_add : PIp X .Add (ipI fun i j => i + j) := by
  intro pins s σ H x y v u Q I r1 r2 h
  obtain ⟨i, j, e1, e2, q⟩ := h
  subst e1; subst e2
  obtain ⟨t, rfl⟩ := r1
  obtain ⟨t', rfl⟩ := r2
  exact iadd_int ⟨.int _, H, I.tok _, ⟨_, rfl⟩, q⟩
end
section
variable {X : Cx} {pos : Pos}
end
structure It where
  go : Nat → Hp → Prop
  yld : Nat → Hp → V → Hp → Prop
  stop : Nat → Hp → Prop
noncomputable def FpOk (X : Cx) (pins : List (Addr × Obj)) (H : Hp) (b : Addr) : Prop :=
  H b = none ∧ b ≠ X.env.locals ∧ b ∉ X.fs ∧ (b ∈ X.ex ∨ X.s₀.heap.objs.size ≤ b) ∧ (∀ x c, X.env.cells.lookup x = some c → c ≠ b) ∧ ∀ p ∈ X.pn ++ pins, p.1 ≠ b
theorem Inv.fpOk {X : Cx} {pins : List (Addr × Obj)} {σ : St} {H H' : Hp} {s : Shared} {b : Addr} (I : Inv X pins σ H s) (hb : s.heap.objs.size ≤ b) (hn : H' b = none) : FpOk X pins H' b := by
  refine ⟨hn, Nat.ne_of_gt (Nat.lt_of_lt_of_le I.lt hb), I.nofs hb, .inr (Nat.le_trans I.sz hb), fun x c e z => ?_, fun p hp z => ?_⟩
  · obtain ⟨v, q⟩ := I.cell x c e
    exact absurd (Nat.lt_of_lt_of_le q.lt (by rw [z]; exact hb)) (Nat.lt_irrefl _)
  · exact absurd (Nat.lt_of_lt_of_le (Heap.lt_size (I.pin p hp).1) (by rw [z]; exact hb)) (Nat.lt_irrefl _)
structure Turn (P : Program) (w : World) (K : PySem.W.Frag) (tg : Expr) (J : It) (fp : List Addr) (it : Addr) (tn : Nat → Heap → Prop) : Prop where
  mem : it ∈ fp
  obj : ∀ i h, tn i h → ∀ b ∈ fp, ∃ o, h.get? b = some o ∧ ∀ v, o.data ≠ .cell v
  keep : ∀ i h h', tn i h → (∀ b ∈ fp, ∀ o, h.get? b = some o → h'.get? b = some o) → tn i h'
  item : ∀ (X : Cx), X.prog = P → X.w = w → X.K = K → X.calm = true → ∀ (i : Nat) (pins : List (Addr × Obj)) (s : Shared) (σ : St) (H : Hp) (E : Value → Shared → Prop), Inv X pins σ H s → (∀ b ∈ fp, FpOk X pins H b) → tn i s.heap → J.go i H →
    wpAny (model P w) X.A (pyNext (.ref it)) (fun r s1 => ∃ u, r = some u ∧
      wpAny (model P w) X.A (letOwnedTupleGo tg (.ref it) u) (fun _ s2 => ∃ x H', Inv X pins σ H' s2 ∧ RelV x u ∧ J.yld i H x H' ∧ tn (i + 1) s2.heap ∧ ∀ b ∈ fp, H' b = none) E s1) E s
  done : ∀ (X : Cx), X.prog = P → X.w = w → X.K = K → X.calm = true → ∀ (i : Nat) (pins : List (Addr × Obj)) (s : Shared) (σ : St) (H : Hp) (E : Value → Shared → Prop), Inv X pins σ H s → (∀ b ∈ fp, FpOk X pins H b) → tn i s.heap → J.stop i H →
    wpAny (model P w) X.A (pyNext (.ref it)) (fun r s1 => r = none ∧ Inv X pins σ H s1) E s
  self : ∀ (A : Around) (i : Nat) (s : Shared) (Q : Value → Shared → Prop) (E : Value → Shared → Prop), tn i s.heap → Q (.ref it) s → wpAny (model P w) A (pyIter (.ref it)) Q E s
noncomputable abbrev TI := St → Hp → (It → Hp → Prop) → Prop
noncomputable def PIE (X : Cx) (pins : List (Addr × Obj)) (σ : St) (tg : Expr) (R : It → Hp → Prop) (itv : Value) (s2 : Shared) : Prop :=
  ∃ (it : Addr) (fp : List Addr) (tn : Nat → Heap → Prop) (J : It) (H' : Hp), itv = .ref it ∧ Inv X pins σ H' s2 ∧ Turn X.prog X.w X.K tg J fp it tn ∧ tn 0 s2.heap ∧ (∀ b ∈ fp, FpOk X pins H' b) ∧ R J H'
noncomputable def PI (X : Cx) (tg iter : Expr) (wi : TI) : Prop :=
  ∀ (pins : List (Addr × Obj)) (s : Shared) (σ : St) (H : Hp) (R : It → Hp → Prop), Inv X pins σ H s → wi σ H R →
    wpAny (model X.prog X.w) X.A (eval iter X.env) (fun v s1 => wpAny (model X.prog X.w) X.A (pyIter v) (PIE X pins σ tg R) X.xe s1) X.xe s
theorem go_of {M : Model} {A : Around} {E : Value → Shared → Prop} {s : Shared} {tg : Expr} {it : Addr} {u : Value} {o : Obj} {n : String} {vs : Array Value} {Q : Unit → Shared → Prop} (ho : s.heap.get? it = some o) (hc : o.cls = .type n) (hd : o.data = .fields vs)
    (hn : ["enumerate", "zip", "dict_itemiterator", "dict_reverseitemiterator", "odict_iterator", "itertools.zip_longest", "itertools.pairwise"].contains n = false) (hQ : Q () s) : wpAny M A (letOwnedTupleGo tg (.ref it) u) Q E s := by
  unfold letOwnedTupleGo
  cases tg <;> first
    | exact wpAny_pure hQ
    | (cases u <;> first
        | exact wpAny_pure hQ
        | (refine wpAny_bind (wpAny_load ho ?_)
           rw [hc, hd]
           show wpAny M A (if (["enumerate", "zip", "dict_itemiterator", "dict_reverseitemiterator", "odict_iterator", "itertools.zip_longest", "itertools.pairwise"].contains n && vs[0]? == some (rawInt _)) = true then _ else _) Q E s
           rw [if_neg (by intro h; rw [hn, Bool.false_and] at h; cases h)]
           exact wpAny_pure hQ))
noncomputable def Itl (K : PySem.W.Frag) (a : Addr) : It :=
  ⟨fun i H => ∃ xs x, SqL K H a xs ∧ xs[i]? = some x, fun i H x H' => H' = H ∧ ∀ xs, SqL K H a xs → xs[i]? = some x, fun i H => ∃ xs, SqL K H a xs ∧ xs.length ≤ i⟩
noncomputable def Itt (K : PySem.W.Frag) (a : Addr) : It :=
  ⟨fun i H => ∃ xs x, SqT K H a xs ∧ xs[i]? = some x, fun i H x H' => H' = H ∧ ∀ xs, SqT K H a xs → xs[i]? = some x, fun i H => ∃ xs, SqT K H a xs ∧ xs.length ≤ i⟩
noncomputable def Itr (lo : Int) (n : Nat) : It := ⟨fun i _ => i < n, fun i H x H' => H' = H ∧ x = .int (lo + i), fun i _ => n ≤ i⟩
theorem turn_list {P : Program} {w : World} {K : PySem.W.Frag} {tg : Expr} (a it : Addr) : Turn P w K tg (Itl K a) [it] it (fun i h => h.IsListIter it a i) where
  mem := by simp
  obj := fun i h st b hb => by
    have e : b = it := by simpa using hb
    subst e
    obtain ⟨o, e, c, d⟩ := st
    exact ⟨o, e, fun v z => by rw [d] at z; cases z⟩
  keep := fun i h h' st k => st.at fun o e => k it (by simp) o e
  item := by
    intro X hP hw hK hc i pins s σ H E I hf st hg
    subst hP hw hK
    obtain ⟨xs, x, hq, hx⟩ := hg
    obtain ⟨its, rv, p, hz⟩ := I.list hq
    obtain ⟨u, hu, ru⟩ := rv.get hx
    obtain ⟨f0, f1, f2, f3, f4, f5⟩ := hf it (by simp)
    refine wpAny_pyNext_list_item st p.isList (x := u) (by simpa using hu) fun h' st' sb => ?_
    have I1 : Inv X pins σ H { s with heap := h' } := I.turned (t' := s.toks) (fun b o hb e => (sb.2 b hb).trans e) f0 f1 f3 f4 f5
    obtain ⟨o, e, c, d⟩ := id st'
    exact ⟨u, rfl, go_of (s := { s with heap := h' }) e c d (by decide) ⟨x, H, I1, ru, ⟨rfl, fun ys hy => by rw [I.list_inj hy hq]; exact hx⟩, st', fun b hb => (hf b hb).1⟩⟩
  done := by
    intro X hP hw hK hc i pins s σ H E I hf st hg
    subst hP hw hK
    obtain ⟨xs, hq, hx⟩ := hg
    obtain ⟨its, rv, p, hz⟩ := I.list hq
    obtain ⟨f0, f1, f2, f3, f4, f5⟩ := hf it (by simp)
    have hl := rv.length
    exact wpAny_pyNext_list_end (I.ok.hd hc) st p.isList (by simp; omega) fun h' eb => ⟨rfl, I.turned (t' := s.toks) (fun b o hb e => eb b o hb e) f0 f1 f3 f4 f5⟩
  self := fun _ _ _ _ _ st h => wpAny_pyIter_listiter st h
theorem turn_tuple {P : Program} {w : World} {K : PySem.W.Frag} {tg : Expr} (a it : Addr) : Turn P w K tg (Itt K a) [it] it (fun i h => h.IsTupleIter it a i) where
  mem := by simp
  obj := fun i h st b hb => by
    have e : b = it := by simpa using hb
    subst e
    obtain ⟨o, e, c, d⟩ := st
    exact ⟨o, e, fun v z => by rw [d] at z; cases z⟩
  keep := fun i h h' st k => st.at fun o e => k it (by simp) o e
  item := by
    intro X hP hw hK hc i pins s σ H E I hf st hg
    subst hP hw hK
    obtain ⟨xs, x, hq, hx⟩ := hg
    obtain ⟨its, rv, p, hz⟩ := I.tuple hq
    obtain ⟨u, hu, ru⟩ := rv.get hx
    obtain ⟨f0, f1, f2, f3, f4, f5⟩ := hf it (by simp)
    refine wpAny_pyNext_tuple_item st (show s.heap.IsTuple a its.toArray from p) (x := u) (by simpa using hu) fun h' st' sb => ?_
    have I1 : Inv X pins σ H { s with heap := h' } := I.turned (t' := s.toks) (fun b o hb e => (sb.2 b hb).trans e) f0 f1 f3 f4 f5
    obtain ⟨o, e, c, d⟩ := id st'
    exact ⟨u, rfl, go_of (s := { s with heap := h' }) e c d (by decide) ⟨x, H, I1, ru, ⟨rfl, fun ys hy => by rw [I.tuple_inj hy hq]; exact hx⟩, st', fun b hb => (hf b hb).1⟩⟩
  done := by
    intro X hP hw hK hc i pins s σ H E I hf st hg
    subst hP hw hK
    obtain ⟨xs, hq, hx⟩ := hg
    obtain ⟨its, rv, p, hz⟩ := I.tuple hq
    obtain ⟨f0, f1, f2, f3, f4, f5⟩ := hf it (by simp)
    have hl := rv.length
    exact wpAny_pyNext_tuple_end (I.ok.hd hc) st (show s.heap.IsTuple a its.toArray from p) (by simp; omega) fun h' eb => ⟨rfl, I.turned (t' := s.toks) (fun b o hb e => eb b o hb e) f0 f1 f3 f4 f5⟩
  self := fun _ _ _ _ _ st h => wpAny_pyIter_tupleiter st h
theorem turn_range {P : Program} {w : World} {K : PySem.W.Frag} {tg : Expr} (it : Addr) (lo : Int) (n : Nat) : Turn P w K tg (Itr lo n) [it] it (fun i h => IsRangeIter h it (lo + (i : Nat) * 1) ((n : Int) - (i : Nat)) 1) where
  mem := by simp
  obj := fun i h st b hb => by
    have e : b = it := by simpa using hb
    subst e
    exact ⟨_, st, fun v z => by
      have z' : Data.fields _ = Data.cell v := z
      cases z'⟩
  keep := fun i h h' st k => k it (by simp) _ st
  item := by
    intro X hP hw hK hc i pins s σ H E I hf st hg
    subst hP hw hK
    obtain ⟨f0, f1, f2, f3, f4, f5⟩ := hf it (by simp)
    have W := Walks.range (prog := X.prog) (w := X.w) (I.ok.hd hc) it lo 1 n
    refine W.item i s _ _ hg st fun v h' tk hv st' kk => ?_
    obtain ⟨t, rfl⟩ := hv
    have I1 : Inv X pins σ H { s with heap := h', toks := tk } := I.turned (fun b o hb e => kk b o (by simpa using hb) e) f0 f1 f3 f4 f5
    refine ⟨_, rfl, go_of (s := { s with heap := h', toks := tk }) (n := "range_iterator") st' rfl rfl (by decide) ⟨.int (lo + i), H, I1, ⟨t, ?_⟩, ⟨rfl, rfl⟩, st', fun b hb => (hf b hb).1⟩⟩
    rw [Int.mul_one]
  done := by
    intro X hP hw hK hc i pins s σ H E I hf st hg
    subst hP hw hK
    obtain ⟨f0, f1, f2, f3, f4, f5⟩ := hf it (by simp)
    exact wpAny_pyNext_range_end (I.ok.hd hc) st (by have : n ≤ i := hg; omega) fun h' eb => ⟨rfl, I.turned (t' := s.toks) (fun b o hb e => eb b o hb e) f0 f1 f3 f4 f5⟩
  self := fun _ _ _ _ _ st h => wpAny_pyIter_rangeiter st h
end L2
namespace L2
open PySem PySem.Spec PyProof.Rows
section
variable {X : Cx} {tg : Expr}
theorem range_it {pins : List (Addr × Obj)} {σ : St} {H : Hp} {s : Shared} {R : It → Hp → Prop} {E : Value → Shared → Prop} {lo hi : Int} {t u v : Tok} {tk : Nat} (I : Inv X pins σ H s) (h1 : -(2 ^ 62) ≤ lo) (h2 : lo < 2 ^ 62) (h3 : -(2 ^ 62) ≤ hi) (h4 : hi < 2 ^ 62)
    (q : R (Itr lo (hi - lo).toNat) H) : wpAny (model X.prog X.w) X.A (pyIter (.ref s.heap.objs.size)) (PIE X pins σ tg R) E { s with heap := s.heap.push { cls := .type "range", data := .fields #[.int lo t, .int hi u, .int 1 v] }, toks := tk } := by
  refine wpAny_pyIter_range (IsRange.new ..) (small_one h1 h2 h3 h4) ?_
  have I1 : Inv X pins σ H { s with heap := s.heap.push { cls := .type "range", data := .fields #[.int lo t, .int hi u, .int 1 v] }, toks := tk } := I.kept fun b o e => Heap.get?_push_of_some _ e
  refine ⟨(s.heap.push { cls := .type "range", data := .fields #[.int lo t, .int hi u, .int 1 v] }).objs.size, [(s.heap.push { cls := .type "range", data := .fields #[.int lo t, .int hi u, .int 1 v] }).objs.size], _, _, H, rfl,
    I1.kept (t' := tk) fun b o e => Heap.get?_push_of_some _ e, turn_range _ lo (hi - lo).toNat, ?_, fun b hb => ?_, q⟩
  · have e1 : lo + ((0 : Nat) : Int) * 1 = lo := by simp
    have e2 : (((hi - lo).toNat : Nat) : Int) - ((0 : Nat) : Int) = Builtin.Range.rangeSize lo hi 1 := by rw [rangeSize_one]; split <;> omega
    show IsRangeIter _ _ (lo + ((0 : Nat) : Int) * 1) ((((hi - lo).toNat : Nat) : Int) - ((0 : Nat) : Int)) 1
    rw [e1, e2]
    exact Heap.get?_push_size _ rfl
  · have e : b = (s.heap.push { cls := .type "range", data := .fields #[.int lo t, .int hi u, .int 1 v] }).objs.size := by simpa using hb
    subst e
    exact I1.fpOk (Nat.le_refl _) (I1.hok.fresh (Nat.le_refl _))
noncomputable def iRng1 (ta : TA) : TI := fun σ H R => ta σ H fun vs H1 => ∃ j : Int, vs = [.int j] ∧ -(2 ^ 62) ≤ j ∧ j < 2 ^ 62 ∧ R (Itr 0 j.toNat) H1
theorem pi_range1 {a : Expr} {ta : TA} {p pos : Pos} (hg : Gl X "range") (hm : X.mg "range" = none) (ha : PA X [a] ta) (hs : starEach [a] X.env = [(false, eval a X.env)] := by rfl) : PI X tg (.Call (.Name "range" p) [a] [] pos) (iRng1 ta) := by
  intro pins s σ H R I h
  refine Call_ (ld_blt I hg hm boot_range (PyProof.Rows.callWith_type1 (thn (ha pos pins s σ H _ I h) fun us s1 ⟨vs, H1, I1, r1, q1⟩ => ?_) hs rfl))
  obtain ⟨j, e, q1, q2, q⟩ := q1
  subst e
  cases r1 with
  | cons r rr =>
    cases rr
    obtain ⟨t, rfl⟩ := r
    exact call_range_1 (range_it I1 (by omega) (by omega) q1 q2 (by simpa using q))
noncomputable def tFor (wi : TI) (g : TG) (tb : TS) : TS := fun D σ H => wi σ H fun J H1 => ∃ W : Nat → Nat → St → Hp → Prop, (∃ m, W 0 m σ H1) ∧ ∀ i m σ H, W i m σ H →
  (J.stop i H ∧ D.nx σ H) ∨ (J.go i H ∧ ∃ N : St → Hp → Prop, (∀ σ' H', N σ' H' → ∃ m', m' < m ∧ W (i + 1) m' σ' H') ∧ ∀ x H', J.yld i H x H' → g x σ H' fun σ2 H2 => tb { D with nx := N, ct := N, bk := D.nx } σ2 H2)
noncomputable def pinsAt (fp : List Addr) (h : Heap) : List (Addr × Obj) := fp.filterMap fun b => (h.get? b).map fun o => (b, o)
theorem mem_pinsAt {fp : List Addr} {h : Heap} {b : Addr} {o : Obj} (hb : b ∈ fp) (e : h.get? b = some o) : (b, o) ∈ pinsAt fp h := List.mem_filterMap.mpr ⟨b, hb, by rw [e]; rfl⟩
theorem of_pinsAt {fp : List Addr} {h : Heap} {p : Addr × Obj} (hp : p ∈ pinsAt fp h) : p.1 ∈ fp ∧ h.get? p.1 = some p.2 := by
  obtain ⟨b, hb, e⟩ := List.mem_filterMap.mp hp
  cases q : h.get? b with
  | none => rw [q] at e; cases e
  | some o =>
    rw [q] at e
    have e' : (b, o) = p := Option.some.inj e
    subst e'
    exact ⟨hb, q⟩
theorem Inv.pinned {pins : List (Addr × Obj)} {σ : St} {H : Hp} {s : Shared} {fp : List Addr} (I : Inv X pins σ H s) (hf : ∀ b ∈ fp, FpOk X pins H b) (ho : ∀ b ∈ fp, ∃ o, s.heap.get? b = some o ∧ ∀ v, o.data ≠ .cell v) : Inv X (pins ++ pinsAt fp s.heap) σ H s :=
  I.pins_of fun p hp => (List.mem_append.mp hp).elim (fun z => I.pin p (List.mem_append_right _ z)) fun z => by
    obtain ⟨hb, e⟩ := of_pinsAt z
    obtain ⟨f0, f1, f2, _⟩ := hf p.1 hb
    obtain ⟨o, e', d⟩ := ho p.1 hb
    rw [e] at e'; cases e'
    exact ⟨e, f0, f1, f2, d⟩
theorem Inv.unpinned {pins pl : List (Addr × Obj)} {σ : St} {H : Hp} {s : Shared} (I : Inv X (pins ++ pl) σ H s) : Inv X pins σ H s := I.pins_of fun p hp => I.pin p (List.mem_append_right _ (List.mem_append_left _ hp))
theorem ps_for {iter : Expr} {body : List Stmt} {wi : TI} {g : TG} {tb : TS} {pos : Pos} (hp : PassesOwn (model X.prog X.w) X.A X.env X.xe) (hc : X.calm = true) (hi : PI X tg iter wi) (hg : PG X tg g) (hb : PSs X body tb)
    (hs : ∀ x, foldedSetIterable iter X.env x = pure x := by intro _; rfl) : PS X (.For tg iter body [] pos) (tFor wi g tb) := by
  intro pins s σ H D I h
  refine wpAny_For (thn (hi pins s σ H _ I h) fun v s1 h1 => thn h1 fun itv s2 h2 => ?_) hs
  obtain ⟨it, fp, tn, J, H2, e, I2, T, st2, f2, W, ⟨m0, w0⟩, turn⟩ := h2
  subst e
  -- what stays true of the iterator's objects through the loop
  have stat : ∀ {H' : Hp}, (∀ b ∈ fp, H' b = none) → ∀ b ∈ fp, FpOk X pins H' b := fun hn b hb => ⟨hn b hb, (f2 b hb).2⟩
  refine codeAny_forLoop_any (fun n s' => ∃ i σ' H', Inv X pins σ' H' s' ∧ tn i s'.heap ∧ (∀ b ∈ fp, H' b = none) ∧ W i n σ' H') ?_ m0 ⟨0, σ, H2, I2, st2, fun b hb => (f2 b hb).1, w0⟩
  rintro n s3 ⟨i, σ3, H3, I3, st3, fr3, w3⟩
  rcases turn i n σ3 H3 w3 with ⟨stop, qn⟩ | ⟨go, N, hN, step⟩
  · refine wpAny_passesOwn hp (thn (T.done X rfl rfl rfl hc i pins s3 σ3 H3 X.xe I3 (stat fr3) st3 stop) fun r s4 ⟨hr, I4⟩ => ?_)
    subst hr
    exact wpAny_execs_nil ⟨σ3, H3, I4, qn⟩
  · refine wpAny_passesOwn hp (thn (T.item X rfl rfl rfl hc i pins s3 σ3 H3 X.xe I3 (stat fr3) st3 go) fun r s4 ⟨u, hr, h4⟩ => ?_)
    subst hr
    refine wpAny_passesOwn hp (thn h4 fun _ s5 ⟨x, H5, I5, r5, y5, st5, fr5⟩ => ?_)
    have I5' := I5.pinned (stat fr5) (T.obj _ _ st5)
    refine wpAny_passesOwn hp (thn (hg _ s5 σ3 H5 x u _ I5' r5 (step x H5 y5)) fun _ s6 ⟨σ6, H6, I6, q6⟩ => ?_)
    refine wpAny_passesOwn hp (thn (hb _ s6 σ6 H6 _ I6 q6) fun f s7 q7 => ?_)
    have again : ∀ {σ7 : St} {H7 : Hp}, Inv X (pins ++ pinsAt fp s5.heap) σ7 H7 s7 → N σ7 H7 → ∃ m, m < n ∧ ∃ i σ' H', Inv X pins σ' H' s7 ∧ tn i s7.heap ∧ (∀ b ∈ fp, H' b = none) ∧ W i m σ' H' := fun {σ7 H7} I7 n7 => by
      obtain ⟨m', hm, w7⟩ := hN σ7 H7 n7
      refine ⟨m', hm, i + 1, σ7, H7, I7.unpinned, T.keep _ _ _ st5 fun b hb o e => (I7.pin (b, o) (List.mem_append_right _ (List.mem_append_right _ (mem_pinsAt hb e)))).1, fun b hb => ?_, w7⟩
      obtain ⟨o, e, d⟩ := T.obj _ _ st5 b hb
      exact (I7.pin (b, o) (List.mem_append_right _ (List.mem_append_right _ (mem_pinsAt hb e)))).2.1
    cases f with
    | next => obtain ⟨σ7, H7, I7, n7⟩ := q7; exact again I7 n7
    | cont => obtain ⟨σ7, H7, I7, n7⟩ := q7; exact again I7 n7
    | brk => obtain ⟨σ7, H7, I7, q7⟩ := q7; exact ⟨σ7, H7, I7.unpinned, q7⟩
    | ret v => obtain ⟨x7, σ7, H7, I7, r7, q7⟩ := q7; exact ⟨x7, σ7, H7, I7.unpinned, r7, q7⟩
end
end L2
namespace L2
open PySem PySem.Spec PyProof.Rows
noncomputable abbrev R2 := V → V → Hp → VK → Prop
noncomputable def OpR (X : Cx) (f : Value → Value → Sem Value) (r : R2) : Prop :=
  ∀ (pins : List (Addr × Obj)) (s : Shared) (σ : St) (H : Hp) (x y : V) (v u : Value) (Q : VK), Inv X pins σ H s → RelV x v → RelV y u → r x y H Q →
    wpAny (model X.prog X.w) X.A (f v u) (EP X pins σ Q) X.xe s
noncomputable def UnR (X : Cx) (f : Value → Sem Value) (r : V → Hp → VK → Prop) : Prop :=
  ∀ (pins : List (Addr × Obj)) (s : Shared) (σ : St) (H : Hp) (x : V) (v : Value) (Q : VK), Inv X pins σ H s → RelV x v → r x H Q →
    wpAny (model X.prog X.w) X.A (f v) (EP X pins σ Q) X.xe s
noncomputable def CallR (X : Cx) (f : Value) (r : List V → Hp → VK → Prop) : Prop :=
  ∀ (pins : List (Addr × Obj)) (s : Shared) (σ : St) (H : Hp) (xs : List V) (us : List Value) (Q : VK), Inv X pins σ H s → Vals xs us → r xs H Q →
    wpAny (model X.prog X.w) X.A (call f us) (EP X pins σ Q) X.xe s
noncomputable def TruR (X : Cx) (r : V → Hp → (Bool → Hp → Prop) → Prop) : Prop :=
  ∀ (pins : List (Addr × Obj)) (s : Shared) (σ : St) (H : Hp) (x : V) (v : Value) (Q : Bool → Hp → Prop), Inv X pins σ H s → RelV x v → r x H Q →
    wpAny (model X.prog X.w) X.A (truthy v) (TP X pins σ Q) X.xe s
noncomputable def tOp (r : R2) (ta tb : TE) : TE := fun σ H Q => ta σ H fun x H1 => tb σ H1 fun y H2 => r x y H2 Q
noncomputable def tUn (r : V → Hp → VK → Prop) (ta : TE) : TE := fun σ H Q => ta σ H fun x H1 => r x H1 Q
noncomputable def rI (C : Int → Int → Prop) (g : Int → Int → V) : R2 := fun x y H Q => ∃ i j, x = .int i ∧ y = .int j ∧ C i j ∧ Q (g i j) H
noncomputable def rI0 (g : Int → Int → V) : R2 := fun x y H Q => ∃ i j, x = .int i ∧ y = .int j ∧ Q (g i j) H
noncomputable def rU (g : Int → V) : V → Hp → VK → Prop := fun x H Q => ∃ i, x = .int i ∧ Q (g i) H
section
variable {X : Cx} {a b c : Expr} {ta tb tc : TE} {pos : Pos}
theorem binT (ha : PE X a ta) (hb : PE X b tb) {pins : List (Addr × Obj)} {s : Shared} {σ : St} {H : Hp} {R : V → V → Hp → Prop} (I : Inv X pins σ H s)
    (h : ta σ H fun x H1 => tb σ H1 fun y H2 => R x y H2) {Q : Value → Shared → Prop} {f : Value → Value → Sem Value}
    (hf : ∀ v u s2 x y H2, Inv X pins σ H2 s2 → RelV x v → RelV y u → R x y H2 → wpAny (model X.prog X.w) X.A (f v u) Q X.xe s2) :
    wpAny (model X.prog X.w) X.A (eval a X.env) (fun v s₁ => wpAny (model X.prog X.w) X.A (eval b X.env) (fun u s₂ => wpAny (model X.prog X.w) X.A (f v u) Q X.xe s₂) X.xe s₁) X.xe s := by
  refine thn (ha pins s σ H _ I h) fun v s1 ⟨x, H1, I1, r1, q1⟩ => ?_
  refine thn (hb pins s1 σ H1 _ I1 q1) fun u s2 ⟨y, H2, I2, r2, q2⟩ => ?_
  exact hf v u s2 x y H2 I2 r1 r2 q2
theorem pe_op {op : Operator} {r : R2} (ho : OpR X (binaryOp op) r) (ha : PE X a ta) (hb : PE X b tb) : PE X (.BinOp a op b pos) (tOp r ta tb) := by
  intro pins s σ H Q I h
  exact wpAny_BinOp (binT ha hb I h fun v u s2 x y H2 I2 rx ry q => ho pins s2 σ H2 x y v u Q I2 rx ry q)
theorem pe_un {op : UnaryOp} {r : V → Hp → VK → Prop} (ho : UnR X (unaryOp op) r) (ha : PE X a ta) : PE X (.UnaryOp op a pos) (tUn r ta) := by
  intro pins s σ H Q I h
  exact UnaryOp_ (thn (ha pins s σ H _ I h) fun v s1 ⟨x, H1, I1, r1, q1⟩ => ho pins s1 σ H1 x v Q I1 r1 q1)
theorem opI {f : Value → Value → Sem Value} {C : Int → Int → Prop} {g : Int → Int → Int}
    (rule : ∀ (i j : Int) (t u : Tok) (s : Shared) (Q : Value → Shared → Prop) (E : Value → Shared → Prop), C i j → Q (.int (g i j) s.toks) { s with toks := s.toks + 1 } → wpAny (model X.prog X.w) X.A (f (.int i t) (.int j u)) Q E s) :
    OpR X f (rI C fun i j => .int (g i j)) := by
  intro pins s σ H x y v u Q I rx ry h
  obtain ⟨i, j, rfl, rfl, hc, q⟩ := h
  obtain ⟨t, rfl⟩ := rx
  obtain ⟨t', rfl⟩ := ry
  exact rule i j t t' s _ _ hc ⟨.int (g i j), H, I.tok _, ⟨_, rfl⟩, q⟩
theorem opI0 {f : Value → Value → Sem Value} {g : Int → Int → Int}
    (rule : ∀ (i j : Int) (t u : Tok) (s : Shared) (Q : Value → Shared → Prop) (E : Value → Shared → Prop), Q (.int (g i j) s.toks) { s with toks := s.toks + 1 } → wpAny (model X.prog X.w) X.A (f (.int i t) (.int j u)) Q E s) :
    OpR X f (rI0 fun i j => .int (g i j)) := by
  intro pins s σ H x y v u Q I rx ry h
  obtain ⟨i, j, rfl, rfl, q⟩ := h
  obtain ⟨t, rfl⟩ := rx
  obtain ⟨t', rfl⟩ := ry
  exact rule i j t t' s _ _ ⟨.int (g i j), H, I.tok _, ⟨_, rfl⟩, q⟩
theorem opB0 {f : Value → Value → Sem Value} {g : Int → Int → Bool}
    (rule : ∀ (i j : Int) (t u : Tok) (s : Shared) (Q : Value → Shared → Prop) (E : Value → Shared → Prop), Q (.bool (g i j)) s → wpAny (model X.prog X.w) X.A (f (.int i t) (.int j u)) Q E s) :
    OpR X f (rI0 fun i j => .bl (g i j)) := by
  intro pins s σ H x y v u Q I rx ry h
  obtain ⟨i, j, rfl, rfl, q⟩ := h
  obtain ⟨t, rfl⟩ := rx
  obtain ⟨t', rfl⟩ := ry
  exact rule i j t t' s _ _ ⟨.bl (g i j), H, I, rfl, q⟩
theorem op_add : OpR X (binaryOp .Add) (rI0 fun i j => .int (i + j)) := opI0 fun _ _ _ _ _ _ _ q => add_int q
theorem op_sub : OpR X (binaryOp .Sub) (rI0 fun i j => .int (i - j)) := opI0 fun _ _ _ _ _ _ _ q => sub_int q
theorem op_mod : OpR X (binaryOp .Mod) (rI (fun _ j => 0 < j) fun i j => .int (i % j)) := opI fun i j _ _ _ _ _ hc q => by
  have h1 : (0 : Int) < j := hc
  exact mod_int' (by omega) (by rw [Int.fmod_eq_emod_of_nonneg i (by omega)]; exact q)
theorem unI {f : Value → Sem Value} {g : Int → Int}
    (rule : ∀ (i : Int) (t : Tok) (s : Shared) (Q : Value → Shared → Prop) (E : Value → Shared → Prop), Q (.int (g i) s.toks) { s with toks := s.toks + 1 } → wpAny (model X.prog X.w) X.A (f (.int i t)) Q E s) :
    UnR X f (rU fun i => .int (g i)) := by
  intro pins s σ H x v Q I rx h
  obtain ⟨i, rfl, q⟩ := h
  obtain ⟨t, rfl⟩ := rx
  exact rule i t s _ _ ⟨.int (g i), H, I.tok _, ⟨_, rfl⟩, q⟩
theorem un_neg : UnR X (unaryOp .USub) (rU fun i => .int (-i)) := unI fun _ _ _ _ _ q => neg_int q
end
section
variable {X : Cx} {a b c : Expr} {ta tb tc : TE} {pos : Pos}
theorem op_lt : OpR X (compareOp .Lt) (rI0 fun i j => .bl (decide (i < j))) := opB0 fun _ _ _ _ _ _ _ q => lt_int q
theorem op_le : OpR X (compareOp .LtE) (rI0 fun i j => .bl (decide (i ≤ j))) := opB0 fun _ _ _ _ _ _ _ q => le_int q
theorem op_gt : OpR X (compareOp .Gt) (rI0 fun i j => .bl (decide (j < i))) := opB0 fun _ _ _ _ _ _ _ q => gt_int q
theorem op_ge : OpR X (compareOp .GtE) (rI0 fun i j => .bl (decide (j ≤ i))) := opB0 fun _ _ _ _ _ _ _ q => ge_int q
theorem nomark (b : Expr) {op : CmpOp} (h : op ≠ .In := by decide) (h2 : op ≠ .NotIn := by decide) : behindInMarks op b = false := by
  have e1 : (op == CmpOp.In) = false := by cases op <;> first | rfl | exact absurd rfl h
  have e2 : (op == CmpOp.NotIn) = false := by cases op <;> first | rfl | exact absurd rfl h2
  cases b <;> simp [behindInMarks, e1, e2]
theorem pe_cmpR {op : CmpOp} {r : R2} (ho : OpR X (compareOp op) r) (ha : PE X a ta) (hb : PE X b tb) (hm : behindInMarks op b = false) : PE X (.Compare a [op] [b] pos) (tOp r ta tb) := by
  intro pins s σ H Q I h
  exact wpAny_Compare1 (binT ha hb I h fun v u s2 x y H2 I2 rx ry q => ho pins s2 σ H2 x y v u Q I2 rx ry q) hm
noncomputable def tTest (t : TE) : TT := fun σ H Q => t σ H fun x H' => ∃ k, x = .bl k ∧ Q k H'
theorem pt_cmpR {op : CmpOp} {r : R2} (ho : OpR X (compareOp op) r) (ha : PE X a ta) (hb : PE X b tb) (hm : behindInMarks op b = false) : PT X (.Compare a [op] [b] pos) (tTest (tOp r ta tb)) := by
  intro pins s σ H Q I h
  refine wpAny_isTrue_Compare1 (thn (ha pins s σ H _ I h) fun v s1 ⟨x, H1, I1, r1, q1⟩ => thn (hb pins s1 σ H1 _ I1 q1) fun u s2 ⟨y, H2, I2, r2, q2⟩ =>
    thn (ho pins s2 σ H2 x y v u _ I2 r1 r2 q2) fun c s3 ⟨z, H3, I3, r3, k, e, q3⟩ => ?_) hm
  subst e
  cases r3
  exact wpAny_truthy_bool ⟨H3, I3, q3⟩
noncomputable def tChain (r r' : R2) (ta tb tc : TE) : TE := fun σ H Q => ta σ H fun x H1 => tb σ H1 fun y H2 => r x y H2 fun z H3 => ∃ k, z = .bl k ∧
  (if k = true then tc σ H3 fun w' H4 => r' y w' H4 Q else Q (.bl false) H3)
theorem pe_chain {op op' : CmpOp} {r r' : R2} (ho : OpR X (compareOp op) r) (ho' : OpR X (compareOp op') r') (ha : PE X a ta) (hb : PE X b tb) (hc : PE X c tc)
    (hm : lastMarks [op, op'] [b, c] = false := by with_unfolding_all rfl) : PE X (.Compare a [op, op'] [b, c] pos) (tChain r r' ta tb tc) := by
  intro pins s σ H Q I h
  refine Compare_chain (thn (ha pins s σ H _ I h) fun v s1 ⟨x, H1, I1, r1, q1⟩ => chain_link (thn (hb pins s1 σ H1 _ I1 q1) fun u s2 ⟨y, H2, I2, r2, q2⟩ =>
    thn (ho pins s2 σ H2 x y v u _ I2 r1 r2 q2) fun d s3 ⟨z, H3, I3, r3, k, e, q3⟩ => ?_)) hm
  subst e
  cases r3
  refine wpAny_truthy_bool ?_
  cases k with
  | false => exact ite_ff ⟨.bl false, H3, I3, rfl, q3⟩
  | true => exact ite_tt (chain_last (thn (hc pins s3 σ H3 _ I3 q3) fun w' s4 ⟨z', H4, I4, r4, q4⟩ => ho' pins s4 σ H4 y z' u w' Q I4 r2 r4 q4))
theorem pt_chain {op op' : CmpOp} {r r' : R2} (ho : OpR X (compareOp op) r) (ho' : OpR X (compareOp op') r') (ha : PE X a ta) (hb : PE X b tb) (hc : PE X c tc)
    (hm : lastMarks [op, op'] [b, c] = false := by with_unfolding_all rfl) : PT X (.Compare a [op, op'] [b, c] pos) (tTest (tChain r r' ta tb tc)) := by
  intro pins s σ H Q I h
  refine isTrue_chain (thn (ha pins s σ H _ I h) fun v s1 ⟨x, H1, I1, r1, q1⟩ => test_link (thn (hb pins s1 σ H1 _ I1 q1) fun u s2 ⟨y, H2, I2, r2, q2⟩ =>
    thn (ho pins s2 σ H2 x y v u _ I2 r1 r2 q2) fun d s3 ⟨z, H3, I3, r3, k, e, q3⟩ => ?_)) hm
  subst e
  cases r3
  refine wpAny_truthy_bool ?_
  cases k with
  | false =>
    obtain ⟨k', e', q'⟩ := q3
    cases e'
    exact ite_ff ⟨H3, I3, q'⟩
  | true =>
    refine ite_tt (test_last (thn (hc pins s3 σ H3 _ I3 q3) fun w' s4 ⟨z', H4, I4, r4, q4⟩ => thn (ho' pins s4 σ H4 y z' u w' _ I4 r2 r4 q4) fun d' s5 ⟨z2, H5, I5, r5, k2, e2, q5⟩ => ?_))
    subst e2
    cases r5
    exact wpAny_truthy_bool ⟨H5, I5, q5⟩
noncomputable def TruV (K : PySem.W.Frag) (x : V) (H : Hp) (k : Bool) : Prop :=
  match x with
  | .non => k = false
  | .bl b => k = b
  | .int i => k = (i != 0)
  | .str y => y.length ≤ sizeLine ∧ k = ((y.length : Int) != 0)
  | .byt y => y.size ≤ sizeLine ∧ k = ((y.size : Int) != 0)
  | .ref p => (∃ xs, SqL K H p xs ∧ k = !xs.isEmpty) ∨ (∃ xs, SqT K H p xs ∧ k = !xs.isEmpty) ∨ ∃ kvs, H p = some (.dK kvs) ∧ k = !kvs.isEmpty
  | _ => False
theorem isEmpty_kv {κ : Type} {kvs : List (κ × V)} {vs : List (κ × Value)} (r : KV kvs vs) : (!vs.isEmpty) = !kvs.isEmpty := by
  cases r <;> rfl
theorem isEmpty_of {xs : List V} {its : List Value} (r : Vals xs its) : (!its.toArray.isEmpty) = !xs.isEmpty := by
  cases r <;> simp
theorem line63 : (sizeLine : Nat) < 2 ^ 63 := by rw [sizeLine_eq]; decide
theorem tru_ok : TruR X (fun x H Q => ∃ k, TruV X.K x H k ∧ Q k H) := by
  intro pins s σ H x v Q I rx h
  obtain ⟨k, e, q⟩ := h
  have hl := line63
  have hs : sizeLine = 16777216 := sizeLine_eq
  cases x with
  | non =>
    cases rx
    have e' : k = false := e
    subst e'
    exact truthy_none ⟨H, I, q⟩
  | bl b =>
    cases rx
    have e' : k = b := e
    subst e'
    exact wpAny_truthy_bool ⟨H, I, q⟩
  | int i =>
    obtain ⟨t, rfl⟩ := rx
    have e' : k = (i != 0) := e
    subst e'
    exact PySem.P.truthy_int ⟨H, I, q⟩
  | str y =>
    obtain ⟨t, rfl⟩ := rx
    obtain ⟨hy, e'⟩ : y.length ≤ sizeLine ∧ k = ((y.length : Int) != 0) := e
    subst e'
    exact PySem.P.truthy_str (by omega) ⟨H, I.tok _, q⟩
  | byt y =>
    obtain ⟨t, rfl⟩ := rx
    obtain ⟨hy, e'⟩ : y.size ≤ sizeLine ∧ k = ((y.size : Int) != 0) := e
    subst e'
    exact PySem.W.truthy_bytes (by omega) ⟨H, I.tok _, q⟩
  | ref p =>
    cases rx
    have e' : (∃ xs, SqL X.K H p xs ∧ k = !xs.isEmpty) ∨ (∃ xs, SqT X.K H p xs ∧ k = !xs.isEmpty) ∨ ∃ kvs, H p = some (.dK kvs) ∧ k = !kvs.isEmpty := e
    rcases e' with ⟨xs, hx, e'⟩ | ⟨xs, hx, e'⟩ | ⟨kvs, hx, e'⟩
    · subst e'
      obtain ⟨its, r, pl, hz⟩ := I.list hx
      have hlen := r.length
      exact wpAny_truthy_list pl.isList (by simp only [List.size_toArray]; omega) ⟨H, I.tok _, by rw [isEmpty_of r]; exact q⟩
    · subst e'
      obtain ⟨its, r, pl, hz⟩ := I.tuple hx
      have hlen := r.length
      exact truthy_tuple pl (by simp only [List.size_toArray]; omega) ⟨H, I.tok _, by rw [isEmpty_of r]; exact q⟩
    · subst e'
      obtain ⟨hz, hS, vs, r, m⟩ : kvs.length ≤ sizeLine ∧ (p == sysModules) = false ∧ ∃ vs, KV kvs vs ∧ s.heap.DictOf (mixKind X.prog X.w) p vs := I.hok p _ hx
      have hlen : kvs.length = vs.length := Paired.length r
      exact wpAny_truthy_dict hS m (by omega) ⟨H, I.tok _, by rw [isEmpty_kv r]; exact q⟩
  | _ => exact (show False from e).elim
theorem pt_truth (ha : PE X a ta) (he : ∀ whole, isTrue a X.env whole = (do let v ← whole; standAt a.pos; holding [v] (truthy v))) :
    PT X a (fun σ H Q => ta σ H fun x H' => ∃ k, TruV X.K x H' k ∧ Q k H') := by
  intro pins s σ H Q I h
  exact isTrue_plain (thn (ha pins s σ H _ I h) fun v s1 ⟨x, H1, I1, r1, q1⟩ => tru_ok pins s1 σ H1 x v Q I1 r1 q1) (he _)
theorem op_add_str : OpR X (binaryOp .Add) (fun x y H Q => ∃ i j, x = .str i ∧ y = .str j ∧ i.length + j.length ≤ sizeLine ∧ Q (.str (i ++ j)) H) := by
  intro pins s σ H x y v u Q I rx ry h
  obtain ⟨i, j, rfl, rfl, hz, q⟩ := h
  obtain ⟨t, rfl⟩ := rx
  obtain ⟨t', rfl⟩ := ry
  exact add_str (fun t' tk => ⟨.str (i ++ j), H, I.tok _, ⟨_, rfl⟩, q⟩) hz
theorem vals1 {x : V} {us : List Value} (r : Vals [x] us) : ∃ u, us = [u] ∧ RelV x u := by
  cases r with
  | cons r1 r2 => cases r2; exact ⟨_, rfl, r1⟩
theorem vals2 {x y : V} {us : List Value} (r : Vals [x, y] us) : ∃ u w', us = [u, w'] ∧ RelV x u ∧ RelV y w' := by
  cases r with
  | cons r1 r2 =>
    cases r2 with
    | cons r3 r4 => cases r4; exact ⟨_, _, rfl, r1, r3⟩
theorem call_max2 (hc : X.calm = true) : CallR X (.builtin "max") (fun xs H Q => ∃ i j, xs = [.int i, .int j] ∧ Q (.int (if j > i then j else i)) H) := by
  intro pins s σ H xs us Q I r h
  obtain ⟨i, j, rfl, q⟩ := h
  obtain ⟨u, w', rfl, ⟨t, rfl⟩, ⟨t', rfl⟩⟩ := vals2 r
  refine max_two_ints (I.ok.hd hc) fun h' tk k => ⟨_, H, I.kept k, ?_, q⟩
  by_cases hj : j > i
  · rw [if_pos hj, if_pos hj]; exact ⟨_, rfl⟩
  · rw [if_neg hj, if_neg hj]; exact ⟨_, rfl⟩
theorem call_int1 : CallR X (.type "int") (fun xs H Q => (∃ i, xs = [.int i] ∧ Q (.int i) H) ∨ ∃ k, xs = [.bl k] ∧ Q (.int (if k then 1 else 0)) H) := by
  intro pins s σ H xs us Q I r h
  rcases h with ⟨i, rfl, q⟩ | ⟨k, rfl, q⟩
  · obtain ⟨u, rfl, t, rfl⟩ := vals1 r
    exact call_int_int ⟨.int i, H, I, ⟨_, rfl⟩, q⟩
  · obtain ⟨u, rfl, r1⟩ := vals1 r
    cases r1
    exact call_int_bool ⟨.int (if k then 1 else 0), H, I.tok _, ⟨_, rfl⟩, q⟩
end
end L2
namespace L2
open PySem PySem.Spec PyProof.Rows
structure ObjM (h : Heap) (x dx C : Addr) (mA : Str → Option Value) : Prop where
  obj : h.get? x = some (PySem.W.instObj C dx)
  ns : h.Ns1 dx mA
  ne : dx ≠ x
theorem lookIn_ns {h : Heap} {dx : Addr} {mA : Str → Option Value} (n : h.Ns1 dx mA) : ∃ od, h.get? dx = some od ∧ ∀ name, PySem.W.lookIn name od = some (mA name) := by
  obtain ⟨o, es, ep, ho, hd, hk, _, hm⟩ := n
  refine ⟨o, ho, fun name => ?_⟩
  have e := hm name
  unfold nsFind findBy at e
  rw [← Array.find?_toList] at e
  unfold PySem.W.lookIn
  rw [hd]
  dsimp only
  split
  · rename_i y q
    rw [q] at e
    exact congrArg some e
  · rename_i q
    rw [q] at e
    have a : es.toList.any (·.refKey) = false := by
      rw [List.any_eq_false]
      intro y hy
      obtain ⟨z, t, hkey⟩ := hk y (Array.mem_toList_iff.mp hy)
      simp [DictEntry.refKey, hkey]
    have a' : ¬ es.toList.any (·.refKey) = true := by rw [a]; exact Bool.false_ne_true
    rw [if_neg a']
    exact congrArg some e
theorem ObjM.look {h : Heap} {x dx C : Addr} {mA : Str → Option Value} (I : ObjM h x dx C mA) : ∃ od, PySem.W.InstAt h x (PySem.W.instObj C dx) C (some od) ∧ ∀ name, PySem.W.lookIn name od = some (mA name) :=
  let ⟨od, ho, hl⟩ := lookIn_ns I.ns
  ⟨od, ⟨I.obj, rfl, rfl, ho⟩, hl⟩
section
variable {prog : Program} {w : World} {A : Around} {E : Value → Shared → Prop} {s : Shared} {K : PySem.W.Frag} {x dx C f : Addr} {mA : Str → Option Value} {name : Str} {v : Value}
end
section
variable {P : Program} {w : World} {H H' : Hp} {h h' : Heap} {a C dx : Addr} {fs fs' : List (Str × V)}
theorem ins_get (hok : HOk P w H h) (e : H a = some (.ins C dx fs)) : ∃ mA, ObjM h a dx C mA ∧ (∀ f, RelO (fs.lookup f) (mA f)) ∧ PySem.Within mA (fs.map (·.1)) ∧ fs.length ≤ 1000 ∧ H dx = some (.own a) := by
  obtain ⟨d, z, ne, ob, mA, n, r, q⟩ := (show ObjOk P w H h a (.ins C dx fs) from hok a _ e)
  exact ⟨mA, ⟨ob, n, ne⟩, r, q, z, d⟩
end
structure Cls (K : PySem.W.Frag) (C : Addr) : Prop where
  pg : PySem.W.plainGet K C Str.empty = true
  hd : PySem.W.hasDictIn K C = true
  po : PySem.W.plainOver K C = true
  sa : PySem.W.findIn K (.ref C) "__setattr__" = some (some (.builtin "object.__setattr__"))
theorem Cls.get {K : PySem.W.Frag} {C : Addr} (c : Cls K C) (f : Str) : PySem.W.plainGet K C f = true := c.pg
section
variable {X : Cx} {pins : List (Addr × Obj)} {σ : St} {H : Hp} {s : Shared} {a C dx : Addr} {fs : List (Str × V)} {f : Str} {v : V} {A : Around} {E : Value → Shared → Prop}
theorem attr_of {prog : Program} {w : World} {env : Env} {e : Expr} {f : Str} {pos : Pos} {s : Shared} {Q : Value → Shared → Prop} (hb : attributeBase e f env (eval e env) = eval e env)
    (h : wpAny (model prog w) A (eval e env) (fun o s₁ => wpAny (model prog w) A (getAttr o f true) Q E s₁) E s) : wpAny (model prog w) A (eval (.Attribute e f pos) env) Q E s :=
  Attribute_any_ h (by rw [arm_eval_Attribute, hb])
end
section
variable {X : Cx} {o e value : Expr} {f : Str} {pos pos' tpos : Pos} {ta tv : TE}
end
section
variable {X : Cx} {pins : List (Addr × Obj)} {σ : St} {H : Hp} {s : Shared} {A : Around} {E : Value → Shared → Prop} {Q : Value → Shared → Prop} {c : Value} {b : Bool}
inductive TyOf (K : PySem.W.Frag) (H : Hp) : V → Value → Prop where
  | non : TyOf K H .non (.type "NoneType")
  | bl (x : Bool) : TyOf K H (.bl x) (.type "bool")
  | int (i : Int) : TyOf K H (.int i) (.type "int")
  | str (x : Str) : TyOf K H (.str x) (.type "str")
  | flt (x : UInt64) : TyOf K H (.flt x) (.type "float")
  | lst {a : Addr} {xs : List V} (e : H a = some (.lst xs)) : TyOf K H (.ref a) (.type "list")
  | frz {a : Addr} {o : Obj} {xs : List V} (e : H a = some (.frz o (.lst xs))) : TyOf K H (.ref a) (.type "list")
  | tup {a : Addr} {xs : List V} (e : H a = some (.tup xs)) : TyOf K H (.ref a) (.type "tuple")
  | frzD {a : Addr} {o : Obj} {kvs : List (Key × V)} (e : H a = some (.frz o (.dK kvs))) : TyOf K H (.ref a) (.type "dict")
  | dK {a : Addr} {kvs : List (Key × V)} (e : H a = some (.dK kvs)) : TyOf K H (.ref a) (.type "dict")
  | dT {a : Addr} {kvs : List (List Key × V)} (e : H a = some (.dT kvs)) : TyOf K H (.ref a) (.type "dict")
  | ins {a C dx : Addr} {fs : List (Str × V)} (e : H a = some (.ins C dx fs)) (cl : Cls K C) (ha : PySem.W.findIn K (.ref C) "__class__" = some (some (.builtin "object.__class__")))
      (hn : PySem.W.specialIn K (.builtin "object.__class__") "__get__" = some (some (.builtin "getset_descriptor.__get__"))) (htk : PySem.W.takesIn K (.builtin "object.__class__") = some true)
      (hm : PySem.W.mroIn K C (.type "object") = some true) : TyOf K H (.ref a) (.ref C)
theorem isinst_ok {x : V} {u t : Value} (I : Inv X pins σ H s) (rx : RelV x u) (ty : TyOf X.K H x t) (e : PySem.W.kitOne X.K t c = some b) (h : ∀ tk, Q (.bool b) { s with toks := tk }) :
    wpAny (model X.prog X.w) A (call (.builtin "isinstance") [u, c]) Q E s := by
  cases ty with
  | non => cases (show u = Value.none from rx); exact PySem.W.kia_one PySem.W.kitx_none I.kIn True.intro e (fun z => nomatch z) h
  | bl y => cases (show u = Value.bool y from rx); exact PySem.W.kia_one PySem.W.kitx_bool I.kIn True.intro e (fun z => nomatch z) h
  | int i => obtain ⟨t, q⟩ := (show ∃ t, u = Value.int i t from rx); cases q; exact PySem.W.kia_one PySem.W.kitx_int I.kIn True.intro e (fun z => nomatch z) h
  | str y => obtain ⟨t, q⟩ := (show ∃ t, u = Value.str y t from rx); cases q; exact PySem.W.kia_one PySem.W.kitx_str I.kIn True.intro e (fun z => nomatch z) h
  | flt y => obtain ⟨t, q⟩ := (show ∃ t, u = Value.float y t from rx); cases q; exact PySem.W.kia_one PySem.W.kitx_float I.kIn True.intro e (fun z => nomatch z) h
  | @lst a xs ea =>
    cases (show u = Value.ref a from rx)
    obtain ⟨_, _, n, _, h1⟩ := (show ObjOk X.prog X.w H s.heap a (.lst xs) from I.hok a _ ea)
    exact PySem.W.kia_one PySem.W.kitx_list I.kIn ⟨_, h1, rfl⟩ e (fun z => nomatch z) h
  | @frz a ob xs ea =>
    cases (show u = Value.ref a from rx)
    obtain ⟨_, _, _, n, _, h1⟩ := (show ObjOk X.prog X.w H s.heap a (.frz ob (.lst xs)) from I.hok a _ ea)
    exact PySem.W.kia_one PySem.W.kitx_list I.kIn ⟨_, h1, rfl⟩ e (fun z => nomatch z) h
  | @tup a xs ea =>
    cases (show u = Value.ref a from rx)
    obtain ⟨_, _, _, p⟩ := (show ObjOk X.prog X.w H s.heap a (.tup xs) from I.hok a _ ea)
    obtain ⟨o, h1, ⟨h2, _⟩, _⟩ := p
    exact PySem.W.kia_one PySem.W.kitx_tuple I.kIn ⟨o, h1, h2⟩ e (fun z => nomatch z) h
  | @frzD a ob kvs ea =>
    cases (show u = Value.ref a from rx)
    obtain ⟨_, _, _, vs, _, p⟩ := (show ObjOk X.prog X.w H s.heap a (.frz ob (.dK kvs)) from I.hok a _ ea)
    obtain ⟨o, es, ep, h1, h2, _⟩ := p
    exact PySem.W.kia_one PySem.W.kitx_dict I.kIn ⟨o, h1, h2.1⟩ e (fun z => nomatch z) h
  | @dK a kvs ea =>
    cases (show u = Value.ref a from rx)
    obtain ⟨_, _, vs, _, p⟩ := (show ObjOk X.prog X.w H s.heap a (.dK kvs) from I.hok a _ ea)
    obtain ⟨o, es, ep, h1, h2, _⟩ := p
    exact PySem.W.kia_one PySem.W.kitx_dict I.kIn ⟨o, h1, h2.1⟩ e (fun z => nomatch z) h
  | @dT a kvs ea =>
    cases (show u = Value.ref a from rx)
    obtain ⟨_, _, xs, _, o, es, ep, h1, h2, _⟩ := (show ObjOk X.prog X.w H s.heap a (.dT kvs) from I.hok a _ ea)
    exact PySem.W.kia_one PySem.W.kitx_dict I.kIn ⟨o, h1, h2.1⟩ e (fun z => nomatch z) h
  | @ins a C dx fs ea cl ha hn htk hm =>
    cases (show u = Value.ref a from rx)
    obtain ⟨mA, O, _⟩ := ins_get I.hok ea
    obtain ⟨od, J, _⟩ := O.look
    exact PySem.W.kia_one (PySem.W.kitx_own (cl.get _) cl.hd ha hn htk hm) I.kIn J e (fun z => nomatch z) h
end
end L2
namespace L2
open PySem PySem.Spec PyProof.Rows
structure Room (k : Nat) (A : Around) : Prop where
  hd : A.handled = none
  dp : A.depth + 3 * k + 5 < recursionLimit
  un : A.units + 16 * k + 200 < cLine
  gd : A.guards = some []
theorem Room.mono {j k : Nat} {A : Around} (r : Room k A) (h : j ≤ k) : Room j A := ⟨r.hd, by have := r.dp; omega, by have := r.un; omega, r.gd⟩
theorem Room.deeper {k : Nat} {A : Around} (r : Room (k + 1) A) (env : Env) : Room k (A.deeper env) :=
  ⟨r.hd, by have := r.dp; show A.depth + 1 + 3 * k + 5 < _; omega, by have := r.un; show A.units + 3 + 16 * k + 200 < _; omega, r.gd⟩
theorem make_depth {A : Around} {C : Addr} {us : List Value} {kw : List (Str × Value)} : (A.under (.builtin "type.__call__" ⟨.ref C :: us, kw⟩)).depth = A.depth + 1 := by
  first | rfl | simp [Around.under, Code.weight, Code.isCreation, Code.isGuard, Code.isCaller, Code.frames, Code.isFrame, guardIds]
theorem make_units {A : Around} {C : Addr} {us : List Value} {kw : List (Str × Value)} : (A.under (.builtin "type.__call__" ⟨.ref C :: us, kw⟩)).units = A.units + 1 := by
  first | rfl | simp [Around.under, Code.cUnits, Code.frames, Code.isFrame]
theorem Room.make {k : Nat} {A : Around} (r : Room (k + 1) A) (C : Addr) (us : List Value) (kw : List (Str × Value)) : Room k (A.under (.builtin "type.__call__" ⟨.ref C :: us, kw⟩)) :=
  ⟨r.hd, by have := r.dp; rw [make_depth]; omega, by have := r.un; rw [make_units]; omega, by first | exact r.gd | (simpa [Around.under, Code.envs, Code.isFrame, Code.isGuard, guardIds] using r.gd)⟩
theorem Room.depth {k : Nat} {A : Around} (r : Room k A) : A.depth < recursionLimit := by have := r.dp; omega
theorem Room.units {k : Nat} {A : Around} (r : Room k A) : A.units + 64 < cLine := by have := r.un; omega
noncomputable def tNil : TA := fun _ H Q => Q [] H
noncomputable def tCons (ta : TE) (tr : TA) : TA := fun σ H Q => ta σ H fun x H1 => tr σ H1 fun xs H2 => Q (x :: xs) H2
section
variable {X : Cx} {e : Expr} {es : List Expr} {te : TE} {t : TA} {pos : Pos}
theorem pa_nil : PA X [] tNil := fun _ _ _ _ H Q I h => Calls.spliced_nil ⟨[], H, I, .nil, h⟩
theorem pa_cons (ha : PE X e te) (hr : PA X es t) (hs : starEach (e :: es) X.env = (false, eval e X.env) :: starEach es X.env := by rfl) : PA X (e :: es) (tCons te t) := by
  intro pos pins s σ H Q I h
  rw [hs]
  show wpAny _ _ (spliced ((false, eval e X.env) :: backTo pos (starEach es X.env))) _ _ s
  refine Calls.spliced_cons (thn (ha pins s σ H _ I h) fun u s1 ⟨x, H1, I1, r1, q1⟩ => ?_)
  exact thn (hr pos pins s1 σ H1 _ I1 q1) fun us s2 ⟨xs, H2, I2, r2, q2⟩ => ⟨x :: xs, H2, I2, .cons r1 r2, q2⟩
noncomputable def tTup (t : TA) : TE := fun σ H Q => t σ H fun xs H1 => xs.length ≤ sizeLine ∧ ∀ p, H1 p = none → Q (.ref p) (upd H1 p (.tup xs))
noncomputable def tLst (t : TA) : TE := fun σ H Q => t σ H fun xs H1 => xs.length ≤ sizeLine ∧ ∀ p, H1 p = none → Q (.ref p) (upd H1 p (.lst xs))
theorem pe_tup {x1} (h : PA X es t) : PE X (.Tuple es x1 pos) (tTup t) := by
  intro pins s σ H Q I hq
  refine wpAny_Tuple_spliced (thn (h pos pins s σ H _ I hq) fun us s1 ⟨xs, H1, I1, r, z, q⟩ => ⟨by rw [← r.length]; exact z, ?_⟩)
  have hf : H1 s1.heap.objs.size = none := I1.hok.fresh (Nat.le_refl _)
  refine ⟨.ref s1.heap.objs.size, upd H1 s1.heap.objs.size (.tup xs), I1.laid (t' := s1.toks) (fun b u e => Heap.get?_push_of_some _ e) (Nat.le_refl _) ?_, rfl, q _ hf⟩
  exact ⟨z, us, r, ⟨_, Heap.get?_push_size _ rfl, ⟨rfl, _, rfl⟩, rfl⟩⟩
theorem pe_lst (h : PA X es t) : PE X (.List es pos) (tLst t) := by
  intro pins s σ H Q I hq
  refine wpAny_List_spliced (thn (h pos pins s σ H _ I hq) fun us s1 ⟨xs, H1, I1, r, z, q⟩ => ⟨by rw [← r.length]; exact z, ?_⟩)
  have hf : H1 s1.heap.objs.size = none := I1.hok.fresh (Nat.le_refl _)
  refine ⟨.ref s1.heap.objs.size, upd H1 s1.heap.objs.size (.lst xs), I1.laid (t' := s1.toks) (fun b u e => Heap.get?_push_of_some _ e) (Nat.le_refl _) ?_, rfl, q _ hf⟩
  exact ⟨z, us, 0, r, Heap.get?_push_size _ rfl⟩
end
noncomputable abbrev Sp := List V → Hp → VK → XK → Prop
noncomputable abbrev CXT := List Env → Hp → Shared → XK → Value → Shared → Prop
structure Env0 (P : Program) (w : World) (K : PySem.W.Frag) (mg : Str → Option Value) (base : Heap) (A : Around) (outer : List Env) (s : Shared) (H : Hp) : Prop where
  frames : A.frames = some outer
  mod : Mod K mg base
  bs : ∀ b o, base.get? b = some o → s.heap.get? b = some o ∧ H b = none
  bsz : base.objs.size ≤ s.heap.objs.size
  funs : s.heap.FunFrames base outer
  frf : ∀ b ∈ frs outer, H b = none
  hok : HOk P w H s.heap
  bare : AllBare s.gens
noncomputable def CE (outer : List Env) (P : Program) (w : World) (H : Hp) (s : Shared) (Q : VK) (u : Value) (s' : Shared) : Prop :=
  ∃ v H', s'.os = s.os ∧ AllBare s'.gens ∧ Un (frs outer) [] H H' s.heap s'.heap ∧ HOk P w H' s'.heap ∧ RelV v u ∧ Q v H'
noncomputable def CR (CX : CXT) (outer : List Env) (P : Program) (w : World) (H : Hp) (s : Shared) (Q : VK) (E : XK) (r : Result) (s' : Shared) : Prop :=
  match r with
  | .ok (.ret u) => CE outer P w H s Q u s'
  | .ok _ => False
  | .error e => CX outer H s E e s'
structure FnOk (P : Program) (w : World) (K : PySem.W.Frag) (mg : Str → Option Value) (base : Heap) (CX : CXT) (k : Nat) (f : Addr) (fd : FuncData) (ps : List Str) (sp : Sp) : Prop where
  len : ∀ vs H Q E, sp vs H Q E → vs.length = ps.length
  run : ∀ (A : Around) (outer : List Env) (s : Shared) (H : Hp) (args : Args) (us : List Value) (vs : List V) (Q : VK) (E : XK), Room k A → Env0 P w K mg base A outer s H → BindsTo s fd args (ps.zip us) → Vals vs us → sp vs H Q E →
    codeAny (model P w) A (.call (.ref f) args) (CR CX outer P w H s Q E) s
theorem FnOk.mono {P : Program} {w : World} {K : PySem.W.Frag} {mg : Str → Option Value} {base : Heap} {CX : CXT} {j k : Nat} {f : Addr} {fd : FuncData} {ps : List Str} {sp : Sp} (F : FnOk P w K mg base CX j f fd ps sp) (h : j ≤ k) :
    FnOk P w K mg base CX k f fd ps sp := ⟨F.len, fun A outer s H args us vs Q E hr => F.run A outer s H args us vs Q E (hr.mono h)⟩
theorem FnOk.imp {P : Program} {w : World} {K : PySem.W.Frag} {mg : Str → Option Value} {base : Heap} {CX : CXT} {k : Nat} {f : Addr} {fd : FuncData} {ps : List Str} {sp sp' : Sp} (F : FnOk P w K mg base CX k f fd ps sp)
    (h : ∀ vs H Q E, sp' vs H Q E → sp vs H Q E) : FnOk P w K mg base CX k f fd ps sp' :=
  ⟨fun vs H Q E q => F.len vs H Q E (h _ _ _ _ q), fun A outer s H args us vs Q E hr he hb hv hs => F.run A outer s H args us vs Q E hr he hb hv (h _ _ _ _ hs)⟩
section
variable {X : Cx} {pins : List (Addr × Obj)} {σ : St} {H : Hp} {s s' : Shared}
theorem Inv.env0 (I : Inv X pins σ H s) : Env0 X.prog X.w X.K X.mg X.base X.A X.stack s H :=
  ⟨I.ok.frames, I.ok.mod, I.bs, Nat.le_trans I.ok.bsz I.sz, I.stack, I.stkFree, I.hok, I.bare⟩
theorem Inv.after {Q : VK} {u : Value} (I : Inv X pins σ H s) (h : CE X.stack X.prog X.w H s Q u s') : EP X pins σ Q u s' := by
  obtain ⟨v, H', os, bare, un, hok, r, q⟩ := h
  obtain ⟨hh, g, d, t, os'⟩ := s'
  obtain rfl : os' = s.os := os
  exact ⟨v, H', I.call (h' := hh) (g' := g) (d' := d) (t' := t) (ch := []) un hok bare (fun b z => absurd z (by simp)), r, q⟩
end
noncomputable def tCall (sp : Sp) (dvs : List V) (E : XK) (t : TA) : TE := fun σ H Q => t σ H fun vs H1 => sp (vs ++ dvs) H1 Q E
noncomputable def Binds (K : PySem.W.Frag) (fd : FuncData) (ps : List Str) (ds : List Value) : Prop :=
  ∀ (s : Shared) (us : List Value), K.In s.heap → (us ++ ds).length = ps.length → BindsTo s fd ⟨us, []⟩ (ps.zip (us ++ ds))
theorem Binds.all {K : PySem.W.Frag} {fd : FuncData} {ps : List Str} (h : ∀ us : List Value, us.length = ps.length → bindArgs fd ⟨us, []⟩ = pure (ps.zip us)) : Binds K fd ps [] := fun s us _ hl => by
  rw [List.append_nil] at hl ⊢
  exact .of_eq (h us hl)
noncomputable def Passes (CX : CXT) (X : Cx) (E : XK) : Prop := ∀ (pins : List (Addr × Obj)) (σ : St) (H : Hp) (s : Shared) (e : Value) (s' : Shared), Inv X pins σ H s → CX X.stack H s E e s' → X.xe e s'
section
variable {X : Cx} {CX : CXT} {k : Nat} {f C : Addr} {fd : FuncData} {ps : List Str} {sp : Sp} {dvs : List V} {ds : List Value} {E : XK} {x m : Str} {p pos apos : Pos} {e o : Expr} {es : List Expr} {ta : TE} {t : TA}
theorem run_fn {pins : List (Addr × Obj)} {σ : St} {H : Hp} {s : Shared} {Q : VK} {us : List Value} {vs : List V} (F : FnOk X.prog X.w X.K X.mg X.base CX k f fd ps sp) (hr : Room k X.A) (hb : Binds X.K fd ps ds) (hd : Vals dvs ds) (hx : Passes CX X E)
    (I : Inv X pins σ H s) (r : Vals vs us) (h : sp (vs ++ dvs) H Q E) : wpAny (model X.prog X.w) X.A (call (.ref f) us) (EP X pins σ Q) X.xe s := by
  have r2 : Vals (vs ++ dvs) (us ++ ds) := r.append hd
  have hl : (us ++ ds).length = ps.length := by rw [← r2.length]; exact F.len _ _ _ _ h
  refine wpAny_call (codeAny_mono (F.run X.A X.stack s H ⟨us, []⟩ (us ++ ds) (vs ++ dvs) Q E hr I.env0 (hb s us I.kIn hl) r2 h) fun r s' hq => ?_)
  cases r with
  | error e => exact hx pins σ H s e s' I hq
  | ok fl =>
    cases fl with
    | ret u => exact I.after hq
    | next => exact False.elim hq
    | brk => exact False.elim hq
    | cont => exact False.elim hq
theorem pe_call (F : FnOk X.prog X.w X.K X.mg X.base CX k f fd ps sp) (hr : Room k X.A) (hg : Gl X x) (hm : X.mg x = some (.ref f)) (hk : PySem.W.keepIn X.K (.ref f) = true) (hb : Binds X.K fd ps ds) (hd : Vals dvs ds) (hx : Passes CX X E)
    (ha : PA X (e :: es) t) (hdb : (x == ("__debug__" : Str)) = false := by decide) (he : starEach (e :: es) X.env = (false, eval e X.env) :: starEach es X.env := by rfl) (hpl : (backTo pos (starEach es X.env)).any (·.1) = false := by rfl) :
    PE X (.Call (.Name x p) (e :: es) [] pos) (tCall sp dvs E t) := by
  intro pins s σ H Q I h
  refine wpAny_Call_Name_kw (ld_glob I hg hm ?_ hdb)
  refine PySem.W.callWith_K (h₀ := X.base) I.ok.mod.kin hk (thn (ha pos pins s σ H _ I h) fun us s1 ⟨vs, H1, I1, r, q⟩ => ⟨I1.kIn, ?_⟩) he hpl
  exact run_fn F hr hb hd hx I1 r q
end
section
variable {X : Cx} {CX : CXT} {k : Nat} {f C : Addr} {fd : FuncData} {ps ks : List Str} {sp : Sp} {E : XK} {x m : Str} {p pos apos kpos : Pos} {e o : Expr} {es : List Expr} {kws : List Keyword} {te ta : TE} {t tk : TA} {nm : Option Str}
variable {g : List Value → List Value → List Value} {gV : List V → List V → List V}
end
structure FnScope (N P : List Str) (sc : Scope) : Prop where
  kind : sc.kind = .function
  co : sc.isCoroutine = false
  gen : sc.isGenerator = false
  nd : N.Nodup
  pre : N.take P.length = P
  par : ∀ x ∈ P, sc.names.lookup x = some .local ∨ sc.names.lookup x = some .cell
  nofree : ∀ y ∈ sc.names, y.2 ≠ .free
theorem bindL_out {kindOf : Str → Option NameKind} {x : Str} : ∀ {binds : List (Str × Value)} {m : Str → Option Value}, (∀ v, (x, v) ∉ binds) → bindL kindOf binds m x = m x
  | [], _, _ => rfl
  | (n, v) :: r, m, h => by
    unfold bindL
    rw [bindL_out fun w hw => h w (List.mem_cons_of_mem _ hw)]
    split
    · have : x ≠ n := by rintro rfl; exact h v List.mem_cons_self
      simp [this]
    · rfl
theorem bindC_out {kindOf : Str → Option NameKind} {x : Str} : ∀ {binds : List (Str × Value)} {m : Str → Option Value}, (∀ v, (x, v) ∉ binds) → bindC kindOf binds m x = m x
  | [], _, _ => rfl
  | (n, v) :: r, m, h => by
    unfold bindC
    rw [bindC_out fun w hw => h w (List.mem_cons_of_mem _ hw)]
    split
    · rfl
    · have : x ≠ n := by rintro rfl; exact h v List.mem_cons_self
      simp [this]
theorem bindL_get {kindOf : Str → Option NameKind} {x : Str} {v : Value} : ∀ {P : List Str} {vs : List Value} {i : Nat} {m : Str → Option Value}, P.Nodup → P[i]? = some x → vs[i]? = some v → kindOf x = some .local →
    bindL kindOf (P.zip vs) m x = some v
  | [], _, _, _, _, h, _, _ => by simp at h
  | _ :: _, [], _, _, _, _, h, _ => by simp at h
  | p :: P, w :: vs, 0, m, nd, h1, h2, hk => by
    simp at h1 h2; subst h1; subst h2
    show bindL kindOf ((p, w) :: P.zip vs) m p = _
    unfold bindL
    rw [bindL_out fun v hv => (List.nodup_cons.mp nd).1 (List.of_mem_zip hv).1, if_pos hk]
    simp
  | p :: P, w :: vs, i + 1, m, nd, h1, h2, hk => by
    show bindL kindOf ((p, w) :: P.zip vs) m x = _
    unfold bindL
    exact bindL_get (i := i) (List.nodup_cons.mp nd).2 (by simpa using h1) (by simpa using h2) hk
theorem bindC_get {kindOf : Str → Option NameKind} {x : Str} {v : Value} : ∀ {P : List Str} {vs : List Value} {i : Nat} {m : Str → Option Value}, P.Nodup → P[i]? = some x → vs[i]? = some v → kindOf x ≠ some .local →
    bindC kindOf (P.zip vs) m x = some v
  | [], _, _, _, _, h, _, _ => by simp at h
  | _ :: _, [], _, _, _, _, h, _ => by simp at h
  | p :: P, w :: vs, 0, m, nd, h1, h2, hk => by
    simp at h1 h2; subst h1; subst h2
    show bindC kindOf ((p, w) :: P.zip vs) m p = _
    unfold bindC
    rw [bindC_out fun v hv => (List.nodup_cons.mp nd).1 (List.of_mem_zip hv).1, if_neg hk]
    simp
  | p :: P, w :: vs, i + 1, m, nd, h1, h2, hk => by
    show bindC kindOf ((p, w) :: P.zip vs) m x = _
    unfold bindC
    exact bindC_get (i := i) (List.nodup_cons.mp nd).2 (by simpa using h1) (by simpa using h2) hk
noncomputable def start (N : List Str) (vs : List V) : St := vs.map some ++ List.replicate (N.length - vs.length) none
noncomputable def cxOf (CX : CXT) (P : Program) (w : World) (K : PySem.W.Frag) (mg : Str → Option Value) (base : Heap) (N : List Str) (qual : Str) (scope : Scope) (f : Addr) (cd : Value) (A : Around) (outer : List Env) (s : Shared) (H : Hp) (E : XK) : Cx where
  prog := P
  w := w
  K := K
  mg := mg
  base := base
  A := A.deeper (envOfC qual scope s.heap.objs.size f cd)
  N := N
  s₀ := s
  H₀ := H
  env := envOfC qual scope s.heap.objs.size f cd
  outer := outer
  stack := envOfC qual scope s.heap.objs.size f cd :: outer
  ex := []
  calm := true
  fn := fun _ => true
  pn := []
  xe := fun e s' => wpAny (model P w) (A.deeper (envOfC qual scope s.heap.objs.size f cd)) (leaving (envOfC qual scope s.heap.objs.size f cd) e) (fun _ s'' => CX outer H s E e s'') (fun e' s'' => CX outer H s E e' s'') s'
theorem cell_has {sc : Scope} {n : Nat} {x : Str} (h : sc.names.lookup x = some .cell) : ∃ c, (cellsFrom n sc.names []).lookup x = some c := by
  have q := PySem.W.cellsFrom_some sc.names n [] (.inl h)
  exact Option.isSome_iff_exists.mp q
theorem inv_start {CX : CXT} {P : Program} {w : World} {K : PySem.W.Frag} {mg : Str → Option Value} {base : Heap} {N ps : List Str} {qual : Str} {scope : Scope} {f : Addr} {cd : Value} {A : Around} {outer : List Env} {s s1 : Shared} {H : Hp} {E : XK} {us : List Value} {vs : List V}
    (S : FnScope N ps scope) (hd : A.handled = none) (e0 : Env0 P w K mg base A outer s H) (hl : vs.length = ps.length) (r : Vals vs us)
    (x : InCallC s s.heap.objs.size (bindL (envOfC qual scope s.heap.objs.size f cd).kindOf (ps.zip us) fun _ => none) (cellsFrom (s.heap.objs.size + 1) scope.names []) (bindC (envOfC qual scope s.heap.objs.size f cd).kindOf (ps.zip us) fun _ => none) s1) :
    Inv (cxOf CX P w K mg base N qual scope f cd A outer s H E) [] (start N vs) H s1 := by
  have hpl : ps.length ≤ N.length := by have := congrArg List.length S.pre; rw [List.length_take] at this; omega
  obtain ⟨h1, tk, rfl, hk⟩ := x.done
  have noA : ∀ b : Addr, b ∉ (cxOf CX P w K mg base N qual scope f cd A outer s H E).ex := fun b z => absurd (show b ∈ ([] : List Addr) from z) (by simp)
  refine ⟨⟨e0.mod, S.kind, rfl, rfl, Nat.le_refl _, fun y z c h1 h2 => ?_, fun y hy => ?_, fun y c _ h => ?_, fun _ => hd, Around.frames_deeper e0.frames, .inr ⟨rfl, rfl⟩, fun b z => absurd z (noA b), e0.bs, e0.bsz, fun b _ _ => noA b, fun b z => absurd z (noA b), e0.funs, e0.frf⟩,
    rfl, e0.bare, Un.kept hk, ⟨_, x.toInCall.ns, fun i y v h1 h2 h3 => ?_⟩, fun y c h => ⟨_, x.cell y c h⟩, e0.hok.fresh (Nat.le_refl _), fun y c h => ?_, fun p hp => absurd (show p ∈ ([] : List (Addr × Obj)) from hp) (by simp), e0.hok.kept hk, ?_⟩
  · exact name_of_addr x.apart (PySem.mem_of_lookup h1) (PySem.mem_of_lookup h2)
  · have hy : scope.names.lookup y = some .cell ∨ scope.names.lookup y = some .free := hy
    rcases hy with hy | hy
    · exact cell_has hy
    · exact absurd rfl (S.nofree _ (PySem.mem_of_lookup hy))
  · exact Nat.le_of_lt (x.above y c (PySem.mem_of_lookup h))
  · have hi : i < vs.length := by
      unfold start at h2
      by_cases hi : i < vs.length
      · exact hi
      · rw [List.getElem?_append_right (by simpa using hi)] at h2
        rw [List.getElem?_replicate] at h2
        split at h2 <;> cases h2
    have ha : vs[i]? = some v := by
      unfold start at h2
      rw [List.getElem?_append_left (by simpa using hi), List.getElem?_map] at h2
      cases e : vs[i]? with
      | none => rw [e] at h2; cases h2
      | some a => rw [e] at h2; cases h2; rfl
    obtain ⟨u, hu, rv⟩ := r.get ha
    have hp : ps[i]? = some y := by
      rw [← S.pre, List.getElem?_take_of_lt (by omega)]; exact h1
    have ndP : ps.Nodup := by rw [← S.pre]; exact S.nd.sublist (List.take_sublist _ _)
    refine ⟨u, rv, ?_⟩
    rcases S.par y (List.mem_of_getElem? hp) with k | k
    · exact .inl ⟨k, bindL_get ndP hp hu k⟩
    · obtain ⟨c, e⟩ := cell_has (n := s.heap.objs.size + 1) k
      refine .inr ⟨.inl k, c, e, ?_⟩
      have q := x.cell y c e
      rw [bindC_get ndP hp hu (by show scope.names.lookup y ≠ _; rw [k]; decide)] at q
      exact q
  · exact e0.hok.fresh (Nat.le_of_lt (x.above y c (PySem.mem_of_lookup h)))
  · unfold start
    show _ = N.length
    rw [List.length_append, List.length_map, List.length_replicate]
    omega
theorem fn_of {CX : CXT} {P : Program} {w : World} {K : PySem.W.Frag} {mg : Str → Option Value} {base : Heap} {k : Nat} {f : Addr} {name qual : Str} {params : Arguments} {body : List Stmt} {scope : Scope} {dV kV doc pm cdv ct oc : Value} {an od : Option Addr}
    {osl : Array (Option Value)} {N ps : List Str} {sp : Sp} (lk : K.lookup f = some ⟨oc, od, .func (PySem.W.fnOf name qual params body scope dV kV doc pm an cdv ct), osl⟩) (hcd : PySem.W.codeIn K cdv qual = true) (S : FnScope N ps scope)
    (len : ∀ vs H Q E, sp vs H Q E → vs.length = ps.length)
    (hbody : ∀ (A : Around) (outer : List Env) (s : Shared) (H : Hp) (vs : List V) (Q : VK) (E : XK), Room k (A.deeper (envOfC qual scope s.heap.objs.size f cdv)) → sp vs H Q E →
      ∃ t, PSs (cxOf CX P w K mg base N qual scope f cdv A outer s H E) body t ∧ t { nx := fun _ H' => Q .non H', rt := Q } (start N vs) H) :
    FnOk P w K mg base CX (k + 1) f (PySem.W.fnOf name qual params body scope dV kV doc pm an cdv ct) ps sp := by
  refine ⟨len, fun A outer s H args us vs Q E hr e0 hb r hsp => ?_⟩
  have hl := len _ _ _ _ hsp
  have KX : K.In s.heap := e0.mod.kin.keeps fun b o e => (e0.bs b o e).1
  have lim : s.heap.NoLimit := e0.mod.nolimit.keeps fun b o e => (e0.bs b o e).1
  have hkind : ∀ y ∈ ps.zip us, scope.names.lookup y.1 = some .local ∨ (scope.names.lookup y.1 = some .cell ∧ ((cellsFrom (s.heap.objs.size + 1) scope.names []).lookup y.1).isSome = true) := fun ⟨n, v⟩ hy => by
    rcases S.par n (List.of_mem_zip hy).1 with q | q
    · exact .inl q
    · exact .inr ⟨q, PySem.W.cellsFrom_some _ _ _ (.inl q)⟩
  refine codeAny_call_function hr.depth (KX _ _ lk) rfl S.co S.gen rfl (PySem.W.codeRec_of KX hcd) (hb _ _ _ _ ?_)
  refine wpAny_newFunctionEnv_cells S.kind hkind fun env he s1 x => ?_
  subst he
  refine ⟨lim.keeps x.toInCall.keep, codeAny_func ?_⟩
  obtain ⟨t, ht, hq⟩ := hbody A outer s H vs Q E (hr.deeper _) hsp
  have I : Inv (cxOf CX P w K mg base N qual scope f cdv A outer s H E) [] (start N vs) H s1 := inv_start S hr.hd e0 hl r x
  refine wpAny_mono (ht [] s1 (start N vs) H _ I hq) (fun fl s' hs => ?_) fun e s' hs => hs
  have fin : ∀ {σ' : St} {H' : Hp} {v : V} {u : Value}, Inv (cxOf CX P w K mg base N qual scope f cdv A outer s H E) [] σ' H' s' → RelV v u → Q v H' → CE outer P w H s Q u s' :=
    fun {σ' H' v u} J rv q => ⟨v, H', J.os, J.bare, J.base, J.hok, rv, q⟩
  cases fl with
  | ret u =>
    obtain ⟨v, σ', H', J, rv, q⟩ := hs
    exact fin J rv q
  | next =>
    obtain ⟨σ', H', J, q⟩ := hs
    exact fin (v := V.non) (u := Value.none) J rfl q
  | brk =>
    obtain ⟨_, _, _, q⟩ := hs
    exact False.elim q
  | cont =>
    obtain ⟨_, _, _, q⟩ := hs
    exact False.elim q
end L2
namespace L2
open PySem PySem.Spec PyProof.Rows
section
variable {X : Cx} {x : Str} {p pos : Pos} {e : Expr} {es : List Expr} {t : TA} {id T : String} {r : List V → Hp → VK → Prop}
noncomputable def tCB (r : List V → Hp → VK → Prop) (t : TA) : TE := fun σ H Q => t σ H fun vs H1 => r vs H1 Q
theorem pe_callB (hc : CallR X (.builtin id) r) (hg : Gl X x) (hm : X.mg x = none) (hv : bootBuiltins x = some (.builtin id)) (ha : PA X (e :: es) t) (hn : x ≠ "__name__" := by decide) (hdb : (x == ("__debug__" : Str)) = false := by decide)
    (he : starEach (e :: es) X.env = (false, eval e X.env) :: starEach es X.env := by rfl) (hpl : (backTo pos (starEach es X.env)).any (·.1) = false := by rfl) : PE X (.Call (.Name x p) (e :: es) [] pos) (tCB r t) := by
  intro pins s σ H Q I h
  refine wpAny_Call_Name_kw (ld_blt I hg hm hv ?_ hn hdb)
  exact PyProof.Rows.callWith_builtin1 (thn (ha pos pins s σ H _ I h) fun us s1 ⟨vs, H1, I1, r1, q1⟩ => hc pins s1 σ H1 vs us Q I1 r1 q1) he hpl
theorem pe_callTy (hc : CallR X (.type T) r) (hg : Gl X x) (hm : X.mg x = none) (hv : bootBuiltins x = some (.type T)) (ha : PA X (e :: es) t) (hn : x ≠ "__name__" := by decide) (hdb : (x == ("__debug__" : Str)) = false := by decide)
    (he : starEach (e :: es) X.env = (false, eval e X.env) :: starEach es X.env := by rfl) (hpl : (backTo pos (starEach es X.env)).any (·.1) = false := by rfl) : PE X (.Call (.Name x p) (e :: es) [] pos) (tCB r t) := by
  intro pins s σ H Q I h
  refine wpAny_Call_Name_kw (ld_blt I hg hm hv ?_ hn hdb)
  exact PyProof.Rows.callWith_type1 (thn (ha pos pins s σ H _ I h) fun us s1 ⟨vs, H1, I1, r1, q1⟩ => hc pins s1 σ H1 vs us Q I1 r1 q1) he hpl
end
end L2
namespace HT
open PySem PyProof.Rows
section
open PySem.SeqAt
open PySem.AutoSeq1 (wpAny_loadPart')
open PySem.MeetsSeq PySem.MeetsSeq2 PySem.MeetsSeq3
end
section
variable {prog : Program} {w : World} {A : Around} {E : Value → Shared → Prop} {s : Shared}
theorem cat_tup {t b : Addr} {vs ws : List Value} {Q : Value → Shared → Prop} (ht : IsTup s.heap t vs.toArray) (hb : IsTup s.heap b ws.toArray) (hv : vs ≠ [])
    (h1 : ws = [] → Q (.ref t) s) (h2 : ws ≠ [] → Q (.ref s.heap.objs.size) { s with heap := s.heap.push { cls := .type "tuple", data := .seq (vs ++ ws).toArray } })
    (hsz : vs.length + ws.length ≤ sizeLine) : wpAny (model prog w) A (binaryOp .Add (.ref t) (.ref b)) Q E s := by
  obtain ⟨⟨cls, dd, data, sl⟩, ho, hc, n, hd⟩ := id ht
  obtain ⟨⟨cls2, dd2, data2, sl2⟩, ho2, hc2, n2, hd2⟩ := id hb
  simp only at hc hd hc2 hd2
  subst hc hd hc2 hd2
  have e : vs.toArray ++ ws.toArray = (vs ++ ws).toArray := by simp
  by_cases hw : ws = []
  · exact concat_meets ⟨_, ho, rfl⟩ ⟨_, ho2, rfl⟩ noFill_tuple_add seq_tuple_add PySem.F.slot_tuple_add PySem.F.entry_tuple_add (PySem.F.args_tuple_add_2 _ _)
      (tuple_addW1 t b vs.toArray ws.toArray n n2 dd dd2 sl sl2 (by simpa using hv) (by simp [hw])) ⟨ho, ho2, h1 hw⟩
  · refine concat_meets ⟨_, ho, rfl⟩ ⟨_, ho2, rfl⟩ noFill_tuple_add seq_tuple_add PySem.F.slot_tuple_add PySem.F.entry_tuple_add (PySem.F.args_tuple_add_2 _ _)
      (tuple_addW2 t b vs.toArray ws.toArray n n2 dd dd2 sl sl2 (by simpa using hv) (by simpa using hw) (by rw [List.size_toArray, List.size_toArray]; exact hsz)) ⟨ho, ho2, ?_⟩
    rw [e]
    exact h2 hw
noncomputable def sIx (n d : Nat) : Option Int → Nat
  | none => d
  | some v => if v < 0 then (v + (n : Int)).toNat else min v.toNat n
theorem sIx_le (n d : Nat) (hd : d ≤ n) (o : Option Int) : sIx n d o ≤ n := by
  cases o with
  | none => exact hd
  | some v =>
    show (if v < 0 then (v + (n : Int)).toNat else min v.toNat n) ≤ n
    by_cases hv : v < 0
    · rw [if_pos hv]; omega
    · rw [if_neg hv]; exact Nat.min_le_right _ _
theorem clip_eq (v : Int) (n d : Nat) : (if v < 0 then max (v + (n : Int)) 0 else min v (n : Int)) = ((sIx n d (some v) : Nat) : Int) := by
  show (if v < 0 then max (v + (n : Int)) 0 else min v (n : Int)) = (((if v < 0 then (v + (n : Int)).toNat else min v.toNat n) : Nat) : Int)
  by_cases hv : v < 0
  · simp only [if_pos hv]; omega
  · simp only [if_neg hv]; omega
theorem adjust_gen (lo hi : Option Int) (n : Nat) : Builtin.Slice.sliceAdjust lo hi 1 (n : Int) = (((sIx n 0 lo : Nat) : Int), ((sIx n n hi : Nat) : Int)) := by
  have h1 : ¬ ((1 : Int) < 0) := by omega
  unfold Builtin.Slice.sliceAdjust
  simp only [h1, if_false]
  refine Prod.ext ?_ ?_
  · cases lo with
    | none => rfl
    | some v => exact clip_eq v n 0
  · cases hi with
    | none => rfl
    | some v => exact clip_eq v n n
theorem places_gen (i j : Nat) : Builtin.Slice.slicePlaces (i : Int) (j : Int) 1 = j - i := by
  unfold Builtin.Slice.slicePlaces
  have h1 : (1 : Int) > 0 := by omega
  simp only [h1, if_true, Int.ediv_one]
  split <;> omega
theorem slicePart_ {v : Value} {o : Option Int} {Q : Option Int → Shared → Prop} (p : IsPart v o) (h : Q o s) : wpAny (model prog w) A (Builtin.Slice.slicePartIndex v) Q E s := by
  cases p with
  | none => exact slicePart_none h
  | int i t => exact slicePart_int h
theorem sliceApplied_gen {sl : Addr} {vl vu : Value} {lo hi : Option Int} {n : Nat} {Q : Int × Int × Nat → Shared → Prop} (hs : s.heap.IsSliceOf sl vl vu .none) (pl : IsPart vl lo) (pu : IsPart vu hi)
    (h : Q (((sIx n 0 lo : Nat) : Int), 1, sIx n n hi - sIx n 0 lo) s) : wpAny (model prog w) A (Builtin.Slice.sliceApplied (.ref sl) (pure (n : Int))) Q E s := by
  obtain ⟨os, hos, hcs, hds⟩ := id hs
  unfold Builtin.Slice.sliceApplied Builtin.Slice.sliceFields
  refine wpAny_bind (wpAny_bind (wpAny_field hos hds (x := vl) rfl (wpAny_bind (wpAny_field hos hds (x := vu) rfl (wpAny_bind (wpAny_field hos hds (x := .none) rfl (wpAny_pure ?_)))))))
  refine wpAny_bind (slicePart_none ?_)
  show wpAny _ _ (if ((1 : Int) == 0) = true then _ else _) _ _ s
  rw [if_neg (by decide)]
  refine wpAny_bind (slicePart_ pl (wpAny_bind (slicePart_ pu (wpAny_bind (wpAny_pure ?_)))))
  show wpAny _ _ (match Builtin.Slice.sliceAdjust lo hi 1 (n : Int) with | (lo, hi) => pure (lo, (1 : Int), Builtin.Slice.slicePlaces lo hi 1)) _ _ s
  rw [adjust_gen lo hi n]
  show wpAny _ _ (pure (((sIx n 0 lo : Nat) : Int), (1 : Int), Builtin.Slice.slicePlaces ((sIx n 0 lo : Nat) : Int) ((sIx n n hi : Nat) : Int) 1)) _ _ s
  rw [places_gen]
  exact wpAny_pure h
theorem pick_gen (xs : Array Value) (i k : Nat) : ((List.range k).filterMap fun (m : Nat) => xs[((i : Int) + (m : Int) * 1).toNat]?).toArray = ((xs.toList.drop i).take k).toArray := by
  have e : (fun (m : Nat) => xs[((i : Int) + (m : Int) * 1).toNat]?) = fun m => xs[i + m]? := by
    funext m
    have : ((i : Int) + (m : Int) * 1).toNat = i + m := by omega
    rw [this]
  rw [e]
  have := pick_run xs i k
  rw [List.filterMap_map] at this
  have e2 : ((fun x => xs[x]?) ∘ fun x => i + x) = fun m => xs[i + m]? := rfl
  rw [e2] at this
  rw [this]
theorem getItem_tuple_cut {t sl : Addr} {items : Array Value} {vl vu : Value} {lo hi : Option Int} {Q : Value → Shared → Prop} (ht : IsTup s.heap t items) (hs : s.heap.IsSliceOf sl vl vu .none) (pl : IsPart vl lo) (pu : IsPart vu hi)
    (hw : ¬ (sIx items.size 0 lo = 0 ∧ sIx items.size items.size hi = items.size))
    (h : Q (.ref s.heap.objs.size) { s with heap := s.heap.push { cls := .type "tuple", data := .seq ((items.toList.drop (sIx items.size 0 lo)).take (sIx items.size items.size hi - sIx items.size 0 lo)).toArray } })
    (hsz : items.size ≤ sizeLine) : wpAny (model prog w) A (getItem (.ref t) (.ref sl)) Q E s := by
  have htake : sizeOk (.seq ((items.toList.drop (sIx items.size 0 lo)).take (sIx items.size items.size hi - sIx items.size 0 lo)).toArray) := by
    show ((items.toList.drop (sIx items.size 0 lo)).take (sIx items.size items.size hi - sIx items.size 0 lo)).toArray.size ≤ sizeLine
    rw [List.size_toArray, List.length_take, List.length_drop, Array.length_toList]
    omega
  have hj : sIx items.size items.size hi ≤ items.size := sIx_le _ _ (Nat.le_refl _) hi
  obtain ⟨os, hos, hcs, hds⟩ := id hs
  have hTs : s.TypeIs (.ref sl) "slice" := ⟨os, hos, hcs⟩
  unfold getItem
  try with_reducible refine wpAny_holding ?_
  first | refine wpAny_bind (wpAny_pure ?_) | skip
  refine wpAny_bind (wpAny_sequenceKey ht.typeIs (by decide) ?_)
  refine wpAny_bind (wpAny_callSpecial?_slot (name := Str.ofString "__getitem__") ht.typeIs PyProof.Rows.slot_tuple_getitem
    (wpAny_call_entry PyProof.Rows.slot_tuple_getitem ht.typeIs entry_tuple_getitem ?_ (args_tuple_getitem _ _)))
  show wpAny _ _ (Builtin.Tuple.tupleItemsOf (.ref t) >>= _) _ _ s
  refine wpAny_bind (tupleItemsOf_ ht ?_)
  refine wpAny_bind (wpAny_typeOf hTs ?_)
  rw [if_pos (by decide)]
  refine wpAny_bind (sliceApplied_gen hs pl pu ?_)
  have hno : ¬ ((((sIx items.size 0 lo : Nat) : Int) == 0 && (1 : Int) == 1 && (sIx items.size items.size hi - sIx items.size 0 lo) == items.size) = true) := by
    intro q
    rw [Bool.and_eq_true, Bool.and_eq_true] at q
    have q1 : ((sIx items.size 0 lo : Nat) : Int) = 0 := eq_of_beq q.1.1
    have q2 : sIx items.size items.size hi - sIx items.size 0 lo = items.size := eq_of_beq q.2
    exact hw ⟨by omega, by omega⟩
  show wpAny _ _ (if (((sIx items.size 0 lo : Nat) : Int) == 0 && (1 : Int) == 1 && (sIx items.size items.size hi - sIx items.size 0 lo) == items.size) = true then _ else _) _ _ s
  rw [if_neg hno, pick_gen]
  first
    | exact wpAny_bind (m := Builtin.Tuple.tupleExact _) (wpAny_newObj_type (wpAny_pure ⟨_, rfl, wpAny_pure h⟩) htake)
    | exact wpAny_bind (m := Builtin.Tuple.tupleExact _) (wpAny_newObj_type (wpAny_bind (wpAny_pure (wpAny_pure ⟨_, rfl, wpAny_pure h⟩))) htake)
    | exact wpAny_bind (wpAny_bind (m := Builtin.Tuple.tupleExact _) (wpAny_newObj_type (wpAny_pure (wpAny_pure ⟨_, rfl, wpAny_pure h⟩)) htake))
    | exact wpAny_bind (wpAny_bind (m := Builtin.Tuple.tupleExact _) (wpAny_newObj_type (wpAny_pure ⟨_, rfl, wpAny_pure h⟩) htake))
end
end HT
namespace L2
open PySem PySem.Spec PyProof.Rows
noncomputable abbrev TO := St → Hp → (Option Int → Hp → Prop) → Prop
noncomputable def PO (X : Cx) (e : Option Expr) (t : TO) : Prop :=
  ∀ (pins : List (Addr × Obj)) (s : Shared) (σ : St) (H : Hp) (Q : Option Int → Hp → Prop), Inv X pins σ H s → t σ H Q →
    wpAny (model X.prog X.w) X.A (evalPart e X.env) (fun u s' => ∃ o H', Inv X pins σ H' s' ∧ IsPart u o ∧ Q o H') X.xe s
noncomputable def tPart (t : TE) : TO := fun σ H Q => t σ H fun x H1 => ∃ i, x = .int i ∧ Q (some i) H1
section
variable {X : Cx} {e : Expr} {te : TE} {lo hi : Option Expr} {tl th : TO} {pos p2 : Pos}
theorem po_some (h : PE X e te) : PO X (some e) (tPart te) := by
  intro pins s σ H Q I hw
  rw [evalPart_some]
  refine thn (h pins s σ H _ I hw) fun u s1 ⟨x, H1, I1, r1, q1⟩ => ?_
  obtain ⟨i, rfl, q⟩ := q1
  obtain ⟨t, rfl⟩ := r1
  exact ⟨some i, H1, I1, .int i t, q⟩
noncomputable def SlR (X : Cx) (r : V → Option Int → Option Int → Hp → VK → Prop) : Prop :=
  ∀ (pins : List (Addr × Obj)) (s : Shared) (σ : St) (H : Hp) (x : V) (v vl vu : Value) (lo hi : Option Int) (sl : Addr) (Q : VK), Inv X pins σ H s → RelV x v → s.heap.IsSliceOf sl vl vu .none → IsPart vl lo → IsPart vu hi → r x lo hi H Q →
    ∃ T id, typeLookup (.type T) "__getitem__" = pure (some (.builtin id)) ∧ s.TypeIs v T ∧ wpAny (model X.prog X.w) X.A (getItem v (.ref sl)) (EP X pins σ Q) X.xe s
theorem SlR.or {r r' : V → Option Int → Option Int → Hp → VK → Prop} (h : SlR X r) (h' : SlR X r') : SlR X (fun x lo hi H Q => r x lo hi H Q ∨ r' x lo hi H Q) := by
  intro pins s σ H x v vl vu lo hi sl Q I rx hs pl pu q
  rcases q with q | q
  · exact h pins s σ H x v vl vu lo hi sl Q I rx hs pl pu q
  · exact h' pins s σ H x v vl vu lo hi sl Q I rx hs pl pu q
noncomputable def tSl (r : V → Option Int → Option Int → Hp → VK → Prop) (te : TE) (tl th : TO) : TE := fun σ H Q => te σ H fun x H1 => tl σ H1 fun l H2 => th σ H2 fun u H3 => r x l u H3 Q
theorem pe_slice {r : V → Option Int → Option Int → Hp → VK → Prop} (hr : SlR X r) (he : PE X e te) (hl : PO X lo tl) (hu : PO X hi th) : PE X (.Subscript e (.Slice lo hi none p2) pos) (tSl r te tl th) := by
  intro pins s σ H Q I h
  refine Subscript_ (thn (he pins s σ H _ I h) fun v s1 ⟨x, H1, I1, r1, q1⟩ => ?_)
  refine wpAny_Slice (thn (hl pins s1 σ H1 _ I1 q1) fun vl s2 ⟨l, H2, I2, pl, q2⟩ => thn (hu pins s2 σ H2 _ I2 q2) fun vu s3 ⟨u, H3, I3, pu, q3⟩ => ?_)
  rw [evalPart_none]
  refine wpAny_pure ?_
  have I4 : Inv X pins σ H3 { s3 with heap := s3.heap.push { cls := .type "slice", data := .fields #[vl, vu, .none] } } := I3.kept (t' := s3.toks) fun b ob q => Heap.get?_push_of_some _ q
  obtain ⟨T, id, hT, ht, hg⟩ := hr pins { s3 with heap := s3.heap.push { cls := .type "slice", data := .fields #[vl, vu, .none] } } σ H3 x v vl vu l u s3.heap.objs.size Q I4 r1 (Heap.IsSliceOf.new ..) pl pu q3
  show wpAny (model X.prog X.w) X.A (subscriptTail e (.Slice lo hi none p2) v (.ref s3.heap.objs.size)) (EP X pins σ Q) X.xe { s3 with heap := s3.heap.push { cls := .type "slice", data := .fields #[vl, vu, .none] } }
  exact tail_any (ops := [.ref s3.heap.objs.size, v]) ht hT hg (by with_unfolding_all rfl)
noncomputable def cutV (xs : List V) (lo hi : Option Int) : List V := (xs.drop (HT.sIx xs.length 0 lo)).take (HT.sIx xs.length xs.length hi - HT.sIx xs.length 0 lo)
theorem cutV_length (xs : List V) (lo hi : Option Int) : (cutV xs lo hi).length ≤ xs.length := by
  unfold cutV
  rw [List.length_take, List.length_drop]
  omega
noncomputable def rSlT (K : PySem.W.Frag) : V → Option Int → Option Int → Hp → VK → Prop := fun x lo hi H Q => ∃ a xs, x = .ref a ∧ SqT K H a xs ∧
  ¬ (HT.sIx xs.length 0 lo = 0 ∧ HT.sIx xs.length xs.length hi = xs.length) ∧ ∀ p, H p = none → Q (.ref p) (upd H p (.tup (cutV xs lo hi)))
theorem sl_tup : SlR X (rSlT X.K) := by
  intro pins s σ H x v vl vu lo hi sl Q I rx hs pl pu h
  obtain ⟨a, xs, rfl, hx, hw, q⟩ := h
  cases rx
  obtain ⟨its, r, ht, hz⟩ := I.tuple hx
  have hlen : its.toArray.size = xs.length := by rw [List.size_toArray]; exact r.length.symm
  refine ⟨"tuple", _, PyProof.Rows.slot_tuple_getitem.lookup, ht.typeIs, ?_⟩
  refine HT.getItem_tuple_cut ht hs pl pu (by rw [hlen]; exact hw) ?_ (by rw [hlen]; exact hz)
  rw [hlen]
  refine ⟨.ref s.heap.objs.size, _, I.laid (t' := s.toks) (o := .tup (cutV xs lo hi)) (fun b ob q => Heap.get?_push_of_some _ q) (Nat.le_refl _) ?_, rfl, q _ (I.hok.fresh (Nat.le_refl _))⟩
  exact ⟨Nat.le_trans (cutV_length xs lo hi) hz, _, (r.drop (HT.sIx xs.length 0 lo)).take (HT.sIx xs.length xs.length hi - HT.sIx xs.length 0 lo), TupX.new _ _⟩
noncomputable def rCatT (K : PySem.W.Frag) : R2 := fun x y H Q => ∃ a b xs ys, x = .ref a ∧ y = .ref b ∧ SqT K H a xs ∧ SqT K H b ys ∧ xs ≠ [] ∧ xs.length + ys.length ≤ sizeLine ∧
  (ys = [] → Q (.ref a) H) ∧ (ys ≠ [] → ∀ p, H p = none → Q (.ref p) (upd H p (.tup (xs ++ ys))))
theorem Vals.nil_iff {xs : List V} {us : List Value} (r : Vals xs us) : us = [] ↔ xs = [] := by
  cases r with
  | nil => simp
  | cons _ _ => simp
theorem op_catT : OpR X (binaryOp .Add) (rCatT X.K) := by
  intro pins s σ H x y v u Q I rx ry h
  obtain ⟨a, b, xs, ys, rfl, rfl, ha, hb, hx, hz, q1, q2⟩ := h
  cases rx
  cases ry
  obtain ⟨its, r1, p1, _⟩ := I.tuple ha
  obtain ⟨its2, r2, p2, _⟩ := I.tuple hb
  refine HT.cat_tup p1 p2 (fun z => hx (r1.nil_iff.mp z)) (fun z => ⟨.ref a, H, I, rfl, q1 (r2.nil_iff.mp z)⟩) (fun z => ?_) (by rw [← r1.length, ← r2.length]; exact hz)
  refine ⟨.ref s.heap.objs.size, _, I.laid (t' := s.toks) (o := .tup (xs ++ ys)) (fun b ob q => Heap.get?_push_of_some _ q) (Nat.le_refl _) ?_, rfl, q2 (fun w => z (r2.nil_iff.mpr w)) _ (I.hok.fresh (Nat.le_refl _))⟩
  exact ⟨by rw [List.length_append]; exact hz, _, r1.append r2, TupX.new _ _⟩
end
end L2
namespace L2
open PySem PySem.Spec PyProof.Rows
noncomputable def ixN (n : Nat) (i : Int) : Option Nat := if 0 ≤ i then (if i < n then some i.toNat else none) else if -(n : Int) ≤ i then some (i + n).toNat else none
noncomputable def atI {α : Type} (xs : List α) (i : Int) : Option α := (ixN xs.length i).bind fun j => xs[j]?
theorem ixN_seq {n : Nat} {i : Int} {j : Nat} (h : ixN n i = some j) : seqIndex? i n = some j ∧ j < n ∧ -(n : Int) ≤ i ∧ i < n := by
  unfold ixN at h
  by_cases h0 : 0 ≤ i
  · rw [if_pos h0] at h
    by_cases h1 : i < n
    · rw [if_pos h1] at h
      have e : i.toNat = j := Option.some.inj h
      exact ⟨by rw [seqIndex_of h0 h1, e], by omega, by omega, h1⟩
    · rw [if_neg h1] at h; cases h
  · rw [if_neg h0] at h
    by_cases h1 : -(n : Int) ≤ i
    · rw [if_pos h1] at h
      have e : (i + n).toNat = j := Option.some.inj h
      exact ⟨by rw [seqIndex_neg (by omega) h1, e], by omega, h1, by omega⟩
    · rw [if_neg h1] at h; cases h
theorem atI_get {α : Type} {xs : List α} {i : Int} {v : α} (h : atI xs i = some v) : ∃ j, seqIndex? i xs.length = some j ∧ xs[j]? = some v ∧ j < xs.length ∧ -(xs.length : Int) ≤ i ∧ i < xs.length := by
  unfold atI at h
  cases e : ixN xs.length i with
  | none => rw [e] at h; cases h
  | some j =>
    rw [e] at h
    obtain ⟨h1, h2, h3, h4⟩ := ixN_seq e
    exact ⟨j, h1, h, h2, h3, h4⟩
theorem atI_nat {α : Type} {xs : List α} {j : Nat} {v : α} (h : xs[j]? = some v) : atI xs (j : Int) = some v := by
  have hj : j < xs.length := (List.getElem?_eq_some_iff.mp h).1
  have e : ixN xs.length (j : Int) = some j := by
    unfold ixN
    rw [if_pos (by omega), if_pos (by omega)]; simp
  unfold atI; rw [e]; exact h
noncomputable def PlainIx (b : Expr) : Prop := ∀ o i, subscripted b false o i = operate [o, i] (getItem o i)
noncomputable def IxR (X : Cx) (r : R2) : Prop :=
  ∀ (value slice : Expr) (pins : List (Addr × Obj)) (s : Shared) (σ : St) (H : Hp) (x y : V) (v u : Value) (Q : VK), Inv X pins σ H s → RelV x v → RelV y u → r x y H Q →
    subscripted slice false v u = operate [v, u] (getItem v u) → wpAny (model X.prog X.w) X.A (subscriptTail value slice v u) (EP X pins σ Q) X.xe s
noncomputable def MtR (X : Cx) (id : String) (r : V → List V → Hp → VK → Prop) : Prop :=
  ∀ (pins : List (Addr × Obj)) (s : Shared) (σ : St) (H : Hp) (x : V) (xs : List V) (v : Value) (us : List Value) (Q : VK), Inv X pins σ H s → RelV x v → Vals xs us → r x xs H Q →
    wpAny (model X.prog X.w) X.A (call (.builtin id) (v :: us)) (EP X pins σ Q) X.xe s
section
variable {X : Cx} {a b : Expr} {ta tb : TE} {pos : Pos}
theorem IxR.or {r r' : R2} (h : IxR X r) (h' : IxR X r') : IxR X (fun x y H Q => r x y H Q ∨ r' x y H Q) := by
  intro value slice pins s σ H x y v u Q I rx ry q hs
  rcases q with q | q
  · exact h value slice pins s σ H x y v u Q I rx ry q hs
  · exact h' value slice pins s σ H x y v u Q I rx ry q hs
theorem pe_ix {r : R2} (hr : IxR X r) (ha : PE X a ta) (hb : PE X b tb) (hs : PlainIx b) : PE X (.Subscript a b pos) (tOp r ta tb) := by
  intro pins s σ H Q I h
  exact Subscript_ (binT ha hb I h fun v u s2 x y H2 I2 rx ry q => hr a b pins s2 σ H2 x y v u Q I2 rx ry q (hs _ _))
noncomputable def rIxL (K : PySem.W.Frag) : R2 := fun x y H Q => ∃ p xs i v, x = .ref p ∧ y = .int i ∧ SqL K H p xs ∧ atI xs i = some v ∧ Q v H
noncomputable def rIxT (K : PySem.W.Frag) : R2 := fun x y H Q => ∃ p xs i v, x = .ref p ∧ y = .int i ∧ SqT K H p xs ∧ atI xs i = some v ∧ Q v H
noncomputable def rIxS : R2 := fun x y H Q => ∃ z i c, x = .str z ∧ y = .int i ∧ z.length ≤ sizeLine ∧ atI z.cps.toList i = some c ∧ Q (.str ⟨#[c]⟩) H
theorem ix_list : IxR X (rIxL X.K) := by
  intro value slice pins s σ H x y v u Q I rx ry h hs
  obtain ⟨p, xs, i, z, rfl, rfl, hq, he, q⟩ := h
  cases rx
  obtain ⟨t, rfl⟩ := ry
  obtain ⟨its, r, pl, hz⟩ := I.list hq
  obtain ⟨j, h1, h2, h3, h4, h5⟩ := atI_get he
  obtain ⟨w, ew, rw'⟩ := r.get h2
  have hl := r.length
  have hn := line63
  have fin : EP X pins σ Q w s := ⟨z, H, I, rw', q⟩
  by_cases h0 : 0 ≤ i
  · have hj : i.toNat = j := by
      rw [seqIndex_of h0 h5] at h1
      exact Option.some.inj h1
    exact item_listR pl.isList h0 (by omega) (by rw [hj]; simpa using ew) fin hs
  · have hj : (i + (its.toArray.size : Int)).toNat = j := by
      rw [seqIndex_neg (by omega) h4] at h1
      rw [List.size_toArray, ← hl]
      exact Option.some.inj h1
    exact subscriptTail_builtinR (x := w) pl.isList.typeIs slot_list_getitem.lookup
      (wpAny_getItem_list_neg (Q := fun r s' => r = w ∧ EP X pins σ Q r s') pl.isList (by omega) (by rw [List.size_toArray] <;> omega) (by omega) (by rw [hj]; simpa using ew) ⟨rfl, fin⟩) hs
theorem ix_tup : IxR X (rIxT X.K) := by
  intro value slice pins s σ H x y v u Q I rx ry h hs
  obtain ⟨p, xs, i, z, rfl, rfl, hq, he, q⟩ := h
  cases rx
  obtain ⟨t, rfl⟩ := ry
  obtain ⟨its, r, pl, hz⟩ := I.tuple hq
  obtain ⟨j, h1, h2, h3, h4, h5⟩ := atI_get he
  obtain ⟨w, ew, rw'⟩ := r.get h2
  have hl := r.length
  have hn := line63
  have fin : EP X pins σ Q w s := ⟨z, H, I, rw', q⟩
  exact subscriptTail_builtinR (x := w) pl.typeIs slot_tuple_getitem.lookup
    (getItem_tuple (j := j) (Q := fun r s' => r = w ∧ EP X pins σ Q r s') pl (by omega) (by omega) (by rw [List.size_toArray, ← hl]; exact h1) (by simpa using ew) ⟨rfl, fin⟩) hs
theorem ix_str : IxR X rIxS := by
  intro value slice pins s σ H x y v u Q I rx ry h hs
  obtain ⟨z, i, c, rfl, rfl, hz, he, q⟩ := h
  obtain ⟨t, rfl⟩ := rx
  obtain ⟨t', rfl⟩ := ry
  obtain ⟨j, h1, h2, h3, h4, h5⟩ := atI_get he
  have hl : z.cps.toList.length = z.length := by simp [Str.length]
  rw [hl] at h1 h4 h5
  have hn := line63
  exact tail_any (typeIs_str s z t) slot_str_getitem.lookup (getItem_str (c := c) (by
    have e1 : decide (i < -(2 ^ 63 : Int)) = false := decide_eq_false (by omega)
    have e2 : decide (i ≥ 2 ^ 63) = false := decide_eq_false (by omega)
    rw [e1, e2, Bool.or_false]) (by rw [h1]; simpa using h2) ⟨.str ⟨#[c]⟩, H, I.tok _, ⟨_, rfl⟩, q⟩) hs
noncomputable def rIx (K : PySem.W.Frag) : R2 := fun x y H Q => rIxL K x y H Q ∨ rIxT K x y H Q ∨ rIxS x y H Q
theorem ix_seq : IxR X (rIx X.K) := ix_list.or (ix_tup.or ix_str)
theorem mapSeq_set (its : List Value) (n j : Nat) (u : Value) : Obj.mapSeq (·.setIfInBounds j u) { cls := .type "list", data := .seq its.toArray n } = { cls := .type "list", data := .seq (its.set j u).toArray n } := by
  simp [Obj.mapSeq]
theorem Inv.lst {pins : List (Addr × Obj)} {σ : St} {H : Hp} {s : Shared} {p : Addr} {xs : List V} (I : Inv X pins σ H s) (h : H p = some (.lst xs)) :
    ∃ (its : List Value) (n : Nat), Vals xs its ∧ s.heap.get? p = some { cls := .type "list", data := .seq its.toArray n } ∧ xs.length ≤ sizeLine := by
  obtain ⟨z, its, n, r, e⟩ := I.hok p _ h
  exact ⟨its, n, r, e, z⟩
theorem Inv.lstUpd {pins : List (Addr × Obj)} {σ : St} {H : Hp} {s : Shared} {p : Addr} {xs ys : List V} {its its' : List Value} {n n' : Nat} {f : Obj → Obj} (I : Inv X pins σ H s) (h : H p = some (.lst xs))
    (ho : s.heap.get? p = some { cls := .type "list", data := .seq its.toArray n }) (hf : f { cls := .type "list", data := .seq its.toArray n } = { cls := .type "list", data := .seq its'.toArray n' }) (r : Vals ys its') (hz : ys.length ≤ sizeLine) (t : Nat) :
    Inv X pins σ (upd H p (.lst ys)) { s with heap := s.heap.update p f, toks := t } := by
  have e : (s.heap.update p f).get? p = some { cls := .type "list", data := .seq its'.toArray n' } := by
    rw [Heap.get?_update_self f ho (by rw [hf] <;> rfl), hf]
  refine I.write (x := p) (e := p) (by rw [h]; trivial) (.inl rfl) (fun b u hb q => (Heap.get?_update_other _ _ (Ne.symm hb)).trans q) ⟨_, e⟩ ?_
  exact ⟨hz, its', n', r, e⟩
noncomputable def rSetL : V → V → V → Hp → (Hp → Prop) → Prop := fun o i v H Q => ∃ p xs k j, o = .ref p ∧ i = .int k ∧ H p = some (.lst xs) ∧ ixN xs.length k = some j ∧ Q (upd H p (.lst (xs.set j v)))
theorem set_list : PSet X rSetL := by
  intro pins s σ H o i v ov iv u Q I ro ri rv h
  obtain ⟨p, xs, k, j, rfl, rfl, hp, hj, q⟩ := h
  cases ro
  obtain ⟨t, rfl⟩ := ri
  obtain ⟨its, n, r, ho, hz⟩ := I.lst hp
  obtain ⟨h1, h2, h3, h4⟩ := ixN_seq hj
  have hl := r.length
  have hn := line63
  have I' : Inv X pins σ (upd H p (.lst (xs.set j v))) { s with heap := s.heap.update p (Obj.mapSeq (·.setIfInBounds j u)) } :=
    I.lstUpd hp ho (mapSeq_set its n j u) (r.set rv j) (by rw [List.length_set]; exact hz) s.toks
  by_cases h0 : 0 ≤ k
  · have hk : k.toNat = j := by
      rw [seqIndex_of h0 h4] at h1
      exact Option.some.inj h1
    exact PySem.W.ki_setAt ho h0 (by omega) (by rw [List.size_toArray, ← hl]; exact h4) (by rw [hk]; exact ⟨_, I', q⟩)
  · have hk : (k + (its.toArray.size : Int)).toNat = j := by
      rw [seqIndex_neg (by omega) h3] at h1
      rw [List.size_toArray, ← hl]
      exact Option.some.inj h1
    exact PySem.W.ki_setBack ho (by omega) (by rw [List.size_toArray, ← hl]; exact h3) (by omega) (by rw [hk]; exact ⟨_, I', q⟩)
theorem slice_bounds (lo hi : Option Int) (n : Nat) : (sliceBounds lo hi none n).1 = ((HT.sIx n 0 lo : Nat) : Int) ∧ (sliceBounds lo hi none n).2.1 = ((HT.sIx n n hi : Nat) : Int) ∧ (sliceBounds lo hi none n).2.2 = 1 := by
  refine ⟨?_, ?_, rfl⟩
  · cases lo with
    | none => simp [sliceBounds, HT.sIx]
    | some i =>
      simp only [sliceBounds, HT.sIx, Option.getD_none, show (1 : Int) > 0 by decide, if_true]
      by_cases h : i < 0
      · simp only [h, if_true] <;> omega
      · simp only [h, if_false] <;> omega
  · cases hi with
    | none => simp [sliceBounds, HT.sIx]
    | some i =>
      simp only [sliceBounds, HT.sIx, Option.getD_none, show (1 : Int) > 0 by decide, if_true]
      by_cases h : i < 0
      · simp only [h, if_true] <;> omega
      · simp only [h, if_false] <;> omega
theorem slicePick_cut (its : List Value) (lo hi : Option Int) : slicePick its.toArray lo hi none = ((its.drop (HT.sIx its.length 0 lo)).take (HT.sIx its.length its.length hi - HT.sIx its.length 0 lo)).toArray := by
  obtain ⟨h1, h2, h3⟩ := slice_bounds lo hi its.toArray.size
  unfold slicePick
  rw [h1, h2, h3]
  simp only [sliceRange_one, pick_run, List.size_toArray] <;> rfl
noncomputable def rSlL (K : PySem.W.Frag) : V → Option Int → Option Int → Hp → VK → Prop := fun x lo hi H Q => ∃ a xs, x = .ref a ∧ SqL K H a xs ∧ ∀ p, H p = none → Q (.ref p) (upd H p (.lst (cutV xs lo hi)))
theorem sl_list : SlR X (rSlL X.K) := by
  intro pins s σ H x v vl vu lo hi sl Q I rx hs pl pu h
  obtain ⟨a, xs, rfl, hx, q⟩ := h
  cases rx
  obtain ⟨its, r, ht, hz⟩ := I.list hx
  have hlen := r.length
  refine ⟨"list", _, slot_list_getitem.lookup, ht.isList.typeIs, ?_⟩
  refine wpAny_getItem_list_slice ht.isList hs pl pu .none (by simp) ?_ (by rw [List.size_toArray] <;> omega)
  rw [slicePick_cut, ← hlen]
  refine ⟨.ref s.heap.objs.size, _, I.laid (t' := s.toks) (o := .lst (cutV xs lo hi)) (fun b ob q => Heap.get?_push_of_some _ q) (Nat.le_refl _) ?_, rfl, q _ (I.hok.fresh (Nat.le_refl _))⟩
  exact ⟨Nat.le_trans (cutV_length xs lo hi) hz, _, 0, (r.drop (HT.sIx xs.length 0 lo)).take (HT.sIx xs.length xs.length hi - HT.sIx xs.length 0 lo), Heap.get?_push_size _ rfl⟩
theorem call_len_seq : CallR X (.builtin "len") (fun xs H Q => ∃ p ys, xs = [.ref p] ∧ (SqL X.K H p ys ∨ SqT X.K H p ys) ∧ Q (.int ys.length) H) := by
  intro pins s σ H xs us Q I r h
  obtain ⟨p, ys, rfl, hq, q⟩ := h
  obtain ⟨u, rfl, rx⟩ := vals1 r
  cases rx
  have hn := line63
  rcases hq with hq | hq
  · obtain ⟨its, r', pl, hz⟩ := I.list hq
    have hlen := r'.length
    exact Calls.call_len_list pl.isList (by simp only [List.size_toArray] <;> omega) ⟨.int ys.length, H, I.tok _, ⟨s.toks + 1, by rw [List.size_toArray, hlen]⟩, q⟩
  · obtain ⟨its, r', pl, hz⟩ := I.tuple hq
    have hlen := r'.length
    exact len_tuple pl (by simp only [List.size_toArray] <;> omega) ⟨.int ys.length, H, I.tok _, ⟨s.toks + 1, by rw [List.size_toArray, hlen]⟩, q⟩
theorem call_len_str : CallR X (.builtin "len") (fun xs H Q => ∃ z, xs = [.str z] ∧ z.length ≤ sizeLine ∧ Q (.int z.length) H) := by
  intro pins s σ H xs us Q I r h
  obtain ⟨z, rfl, hz, q⟩ := h
  obtain ⟨u, rfl, t, rfl⟩ := vals1 r
  have hn := line63
  exact len_str (by omega) ⟨.int z.length, H, I.tok _, ⟨_, rfl⟩, q⟩
theorem CallR.or {f : Value} {r r' : List V → Hp → VK → Prop} (h : CallR X f r) (h' : CallR X f r') : CallR X f (fun xs H Q => r xs H Q ∨ r' xs H Q) := by
  intro pins s σ H xs us Q I rs q
  rcases q with q | q
  · exact h pins s σ H xs us Q I rs q
  · exact h' pins s σ H xs us Q I rs q
noncomputable def tyV (K : PySem.W.Frag) (T : String) (x : V) (H : Hp) : Prop := match x with
  | .str _ => T = "str"
  | .int _ => T = "int"
  | .ref p => (T = "list" ∧ ∃ xs, SqL K H p xs) ∨ (T = "tuple" ∧ ∃ o, K.lookup p = some o ∧ o.cls = .type "tuple" ∧ o.dict = none) ∨
      (T = "dict" ∧ ((∃ kvs, H p = some (.dK kvs)) ∨ ∃ kvs, H p = some (.dT kvs))) ∨ (T = "set" ∧ ∃ S n, H p = some (.set S n)) ∨ (T = "tuple" ∧ ∃ xs, H p = some (.tup xs))
  | _ => False
theorem tyV_is {pins : List (Addr × Obj)} {σ : St} {H : Hp} {s : Shared} {T : String} {x : V} {v : Value} (I : Inv X pins σ H s) (r : RelV x v) (ty : tyV X.K T x H) :
    s.TypeIs v T ∧ ∀ a, v = .ref a → ∃ ob, s.heap.get? a = some ob ∧ ob.dict = none := by
  cases x with
  | str z =>
    obtain ⟨t, rfl⟩ := r
    cases (show T = "str" from ty)
    exact ⟨typeIs_str s z t, fun _ e => nomatch e⟩
  | int i =>
    obtain ⟨t, rfl⟩ := r
    cases (show T = "int" from ty)
    exact ⟨typeIs_int s i t, fun _ e => nomatch e⟩
  | ref p =>
    cases r
    rcases ty with ⟨rfl, xs, hq⟩ | ⟨rfl, o, hk, hc, hd⟩ | ⟨rfl, hk⟩ | ⟨rfl, S, n, hk⟩ | ⟨rfl, xs, hk⟩
    · obtain ⟨its, _, pl, _⟩ := I.list hq
      refine ⟨pl.isList.typeIs, fun a e => ?_⟩
      cases e
      obtain ⟨o, n, e, c, hd, _⟩ := pl
      exact ⟨o, e, hd⟩
    · refine ⟨⟨o, I.kIn p o hk, hc⟩, fun a e => ?_⟩
      cases e
      exact ⟨o, I.kIn _ o hk, hd⟩
    · have z : ∃ o, s.heap.get? p = some o ∧ o.ExactDict := by
        rcases hk with ⟨kvs, hk⟩ | ⟨kvs, hk⟩
        · obtain ⟨_, _, _, _, o, _, _, e, ex, _⟩ := I.hok p _ hk
          exact ⟨o, e, ex⟩
        · obtain ⟨_, _, _, _, o, _, _, e, ex, _⟩ := I.hok p _ hk
          exact ⟨o, e, ex⟩
      obtain ⟨o, e, ex⟩ := z
      refine ⟨⟨o, e, ex.1⟩, fun a e2 => ?_⟩
      cases e2
      exact ⟨o, e, ex.2.1⟩
    · obtain ⟨o, _, _, _, e, ex, _⟩ := I.hok p _ hk
      refine ⟨⟨o, e, ex.1⟩, fun a e2 => ?_⟩
      cases e2
      exact ⟨o, e, ex.2.1⟩
    · obtain ⟨_, _, _, o, e, ⟨c, _⟩, hd⟩ := I.hok p _ hk
      refine ⟨⟨o, e, c⟩, fun a e2 => ?_⟩
      cases e2
      exact ⟨o, e, hd⟩
  | _ => exact False.elim ty
noncomputable def tBM (K : PySem.W.Frag) (T : String) (r : V → List V → Hp → VK → Prop) (to : TE) (t : TA) : TE := fun σ H Q => to σ H fun x H1 => tyV K T x H1 ∧ t σ H1 fun xs H2 => r x xs H2 Q
variable {o e : Expr} {es : List Expr} {to : TE} {t : TA} {name : Str} {apos cpos : Pos} {T id : String} {r : V → List V → Hp → VK → Prop}
theorem pe_bm (pa : PlainAttrs T) (slot : Slot T name id) (hty : typeOf (.builtin id) = pure (.type "method_descriptor")) (hm : MtR X id r) (ho : PE X o to) (ha : PA X (e :: es) t)
    (hbase : attributeBase o name X.env (eval o X.env) = eval o X.env := by rfl)
    (hfew : ((backTo cpos (starEach (e :: es) X.env)).all (fun x => !x.1) && (backToKw cpos (keywordEach [] X.env)).all (fun x => x.1.isSome)
      && decide ((e :: es).length + ([] : List Keyword).length + (if ([] : List Keyword).isEmpty then 0 else 1) < 30)) = true := by rfl)
    (hline : (apos.endLine == cpos.line) = true := by rfl) (hs : starEach (e :: es) X.env = (false, eval e X.env) :: starEach es X.env := by rfl) (hplain : (backTo cpos (starEach es X.env)).any (·.1) = false := by rfl) :
    PE X (.Call (.Attribute o name apos) (e :: es) [] cpos) (tBM X.K T r to t) := by
  intro pins s σ H Q I h
  refine wpAny_Call_method_late hbase hfew hline rfl (thn (ho pins s σ H _ I h) fun v s1 ⟨x, H1, I1, r1, ty, q1⟩ => ?_)
  obtain ⟨h1, h2⟩ := tyV_is I1 r1 ty
  refine ⟨T, id, pa, slot, hty, h1, h2, ?_⟩
  have hA := ha cpos pins s1 σ H1 _ I1 q1
  rw [hs] at hA ⊢
  refine Calls.callWith_builtin (by show (false || (backTo cpos (starEach es X.env)).any (·.1)) = false; rw [hplain] <;> rfl) (Calls.evalArgs_plain ?_)
  exact thn hA fun us s2 ⟨vs, H2, I2, r2, q2⟩ => hm pins s2 σ H2 x vs v us Q I2 r1 r2 q2
/- xs.append(e), list.index on a module's tuple .. are MtR facts of 06m -/
end
end L2
namespace L2
open PySem PySem.Spec PyProof.Rows
noncomputable def MtM (X : Cx) (id : String) (r : V → List V → Hp → VK → Prop) : Prop :=
  ∀ (pins : List (Addr × Obj)) (s : Shared) (σ : St) (H : Hp) (x : V) (xs : List V) (v : Value) (us : List Value) (Q : VK), Inv X pins σ H s → RelV x v → Vals xs us → r x xs H Q →
    wpAny (model X.prog X.w) X.A (call (.builtin id) (v :: us)) (EP X pins σ Q) X.xe s
theorem Vals.one : ∀ {x : V} {us : List Value}, Vals [x] us → ∃ u, us = [u] ∧ RelV x u
  | _, _, .cons r .nil => ⟨_, rfl, r⟩
theorem Vals.rep {xs : List V} {us : List Value} (h : Vals xs us) : ∀ k : Nat, Vals (List.replicate k xs).flatten (List.replicate k us).flatten
  | 0 => .nil
  | k + 1 => by
    rw [List.replicate_succ, List.replicate_succ, List.flatten_cons, List.flatten_cons]
    exact Vals.append h (Vals.rep h k)
theorem foldl_rep (its : List Value) : ∀ (k : Nat) (acc : List Value),
    List.foldl (fun x1 x2 => x1 ++ x2) acc.toArray (List.replicate k its.toArray) = (acc ++ (List.replicate k its).flatten).toArray
  | 0, acc => by simp
  | k + 1, acc => by
    have e : acc.toArray ++ its.toArray = (acc ++ its).toArray := by simp
    have e2 : (acc ++ its) ++ (List.replicate k its).flatten = acc ++ (List.replicate (k + 1) its).flatten := by
      rw [List.replicate_succ, List.flatten_cons, List.append_assoc]
    rw [← e2, ← foldl_rep its k (acc ++ its), ← e, List.replicate_succ, List.foldl_cons]
section
variable {X : Cx} {pins : List (Addr × Obj)} {σ : St} {H : Hp} {s : Shared} {l b : Addr} {xs ys zs : List V}
theorem Inv.lset {its its' : List Value} {n : Nat} {f : Array Value → Array Value} {t' : Nat} (I : Inv X pins σ H s) (hH : H l = some (.lst xs))
    (e : s.heap.get? l = some { cls := .type "list", data := .seq its.toArray n }) (hf : f its.toArray = its'.toArray) (hv : Vals ys its') (hz : ys.length ≤ sizeLine) :
    Inv X pins σ (upd H l (.lst ys)) { s with heap := s.heap.update l (Obj.mapSeq f), toks := t' } := by
  have q := PySem.IsL.update e f
  rw [hf] at q
  refine I.write (x := l) (e := l) (by rw [hH]; exact trivial) (.inl rfl) (fun b' u hb hu => (Heap.get?_update_other s.heap (Obj.mapSeq f) (Ne.symm hb)).trans hu) ⟨_, q⟩ ?_
  exact ⟨hz, its', _, hv, q⟩
theorem Inv.lnew {its : List Value} {t' : Nat} (I : Inv X pins σ H s) (hv : Vals ys its) (hz : ys.length ≤ sizeLine) :
    Inv X pins σ (upd H s.heap.objs.size (.lst ys)) { s with heap := s.heap.push { cls := .type "list", data := .seq its.toArray }, toks := t' } :=
  I.laid (fun _ _ q => Heap.get?_push_of_some _ q) (Nat.le_refl _) ⟨hz, its, 0, hv, Heap.get?_push_size _ rfl⟩
theorem Inv.fresh (I : Inv X pins σ H s) : H s.heap.objs.size = none := I.hok.fresh (Nat.le_refl _)
theorem Inv.lstM (I : Inv X pins σ H s) (hH : H l = some (.lst xs)) : xs.length ≤ sizeLine ∧ ∃ (its : List Value) (n : Nat), Vals xs its ∧ xs.length = its.length ∧ s.heap.get? l = some { cls := .type "list", data := .seq its.toArray n } := by
  obtain ⟨z, its, n, r, e⟩ := I.hok l _ hH
  exact ⟨z, its, n, r, r.length, e⟩
theorem notLongL {n : Nat} (h : n ≤ sizeLine) : Builtin.List.listTooLong n = false := by
  unfold Builtin.List.listTooLong
  exact decide_eq_false (by omega)
end
section
variable {X : Cx}
noncomputable def rAppend : V → List V → Hp → VK → Prop := fun x vs H Q => ∃ l xs y, x = .ref l ∧ vs = [y] ∧ H l = some (.lst xs) ∧ xs.length < sizeLine ∧ Q .non (upd H l (.lst (xs ++ [y])))
theorem mt_append : MtM X "list.append" rAppend := by
  intro pins s σ H x vs v us Q I rx rv h
  obtain ⟨l, xs, y, rfl, rfl, hH, hz, q⟩ := h
  cases rx
  obtain ⟨u, rfl, ru⟩ := rv.one
  obtain ⟨z, its, n, r, hl, e⟩ := I.lstM hH
  refine call_meets F.slot_list_append ⟨_, e, rfl⟩ F.entry_list_append (F.args_list_append_2 _ _) (PySem.list_append l its.toArray n u (by rw [List.size_toArray]; omega)) ⟨e, ?_⟩
  refine ⟨.non, _, I.lset (its' := its ++ [u]) hH e (by simp) (r.append (.cons ru .nil)) ?_, rfl, q⟩
  rw [List.length_append, List.length_singleton]
  omega
theorem len_rep {α : Type} (xs : List α) (k : Nat) : (List.replicate k xs).flatten.length = k * xs.length := by
  induction k with
  | zero => simp
  | succ k ih => rw [List.replicate_succ, List.flatten_cons, List.length_append, ih, Nat.succ_mul, Nat.add_comm]
end
section
variable {prog : Program} {w : World} {A : Around} {E : Value → Shared → Prop} {s : Shared}
end
section
variable {X : Cx}
end
end L2
namespace Att
open PySem PySem.W PySem.Calls PyProof.Rows
theorem ints_of_wellAll {P : Params} {h : Heap} : ∀ (ns : List Int) (vs : List Value), WellAll P h vs (ns.map WData.int) → IntsAre vs ns := by
  intro ns
  induction ns with
  | nil =>
    intro vs w
    rw [List.map_nil] at w
    cases w
    exact .nil
  | cons n ns ih =>
    intro vs w
    rw [List.map_cons] at w
    cases w with
    | cons a b =>
      cases a
      exact .cons _ _ (ih _ b)
theorem script_of {l : OpenLaw} {n : Nat} (hn : l.most = some n) {P : Params} {h : Heap} {args : List WData} {vals : List Value}
    (hpre : l.row.toRowW.claim.pre args = true) (hwl : WellAll P h vals args) :
    ∃ a vs ns, vals = [Value.ref a] ∧ args = [WData.list (ns.map WData.int)] ∧ h.get? a = some { cls := .type "list", data := .seq vs.toArray } ∧ IntsAre vs ns ∧ ns.length ≤ n := by
  have hsh : WShape.hasAll [] args [.list .int] = true := (pre_splitW hpre).1
  have hc : l.pre.holds [] { args := args } = true := (pre_splitW hpre).2
  obtain ⟨d, r, rfl, h1, h2⟩ := hasAllW_cons hsh
  obtain rfl := hasAllW_nil h2
  obtain ⟨xs, rfl, h3⟩ := hasW_list h1
  obtain ⟨ns, rfl⟩ := items_int h3
  have hlen : ns.length ≤ n := by
    unfold OpenLaw.pre at hc
    have h4 : (WTm.not (.lt (.lit (.int (n : Int))) (.len (.arg 0)))).holds [] { args := [.list (ns.map .int)] } = true := by
      have h4 := (holds_andW hc).1
      rw [hn] at h4
      exact h4
    have h5 := condW_of h4 (w_not (w_lt w_lit (w_len_list (w_arg rfl))))
    rw [List.length_map] at h5
    refine Nat.le_of_not_lt fun q => ?_
    have q' : (n : Int) < ((ns.length : Nat) : Int) := by omega
    first
      | (rw [decide_eq_true q'] at h5; exact absurd h5 (by decide))
      | (simp at h5; omega)
  cases hwl with
  | cons w1 w2 =>
    cases w2
    cases w1 with
    | list ho hall => exact ⟨_, _, ns, rfl, rfl, ho, ints_of_wellAll ns _ hall, hlen⟩
theorem post_true (l : OpenLaw) (args : List WData) : l.row.toRowW.claim.post args (.bool true) args = true :=
  postW_of (r := l.row.toRowW) (X := (true == true))
    (show WShape.has [] (.bool true) .bool = true by first | rfl | decide | simp [WShape.has, WShape.arms, WShape.armsAll])
    (show (WTm.eq .res (.lit (.bool true))).value [] { args := args, res := some (.bool true), after := args } = some (.bool (true == true)) from w_eq_bool (w_res rfl) w_lit) rfl
theorem attach_call {l : OpenLaw} {n : Nat} {q : Program} {loose : List Str} {XP : (Str → Option Value) → Heap → Prop} {YP : World → Heap → Prop} {d : DefRec}
    (hn : l.most = some n) (hdf : d.params.defaults = [])
    (call : ∀ (w : World) (s₀ s₁ : Shared) (mg mb : Str → Option Value) (fa : Addr) (o : Obj) (pm cd doc : Value) (a : Addr) (vs : List Value) (ns : List Int),
      Ground q loose [] XP w s₀ mg mb s₁.heap → YP w s₁.heap →
      s₁.heap.get? fa = some o → o.data = .func (docDef d.name d.params d.body d.scope pm cd doc) → s₁.heap.CodeRec cd d.name → mg d.name = some (.ref fa) →
      s₁.heap.get? a = some { cls := .type "list", data := .seq vs.toArray } → IntsAre vs ns → ns.length ≤ n → s₁.gens = #[] →
      codeAny (model l.prog w) callerA (.call (.ref fa) ⟨[.ref a], []⟩) (fun r s' => r = .ok (.ret (.bool true)) ∧ OldK s₁.heap s'.heap ∧ s'.os = s₁.os ∧ AllBare s'.gens) s₁) :
    WalkO q loose XP YP l.row.toRowW d [] (fun f vs => PySem.call f vs) := by
  intro w s₀ s₁ mg mb G Y fa o pm cd doc dV kV ho hd hcd hD hmg hg args vals as hpre hlay hrd hwl hlo
  obtain rfl : dV = .none := Dflts.none hD hdf
  obtain rfl : kV = .none := Dflts.noKw hD
  obtain ⟨a, vs, ns, rfl, rfl, hobj, hints, hlen⟩ := script_of hn hpre hwl
  refine enter_call (codeAny_mono (call w s₀ s₁ mg mb fa o pm cd doc a vs ns G Y ho (fd_plain hd) hcd hmg hobj hints hlen hg) fun r s' hq => ?_)
  obtain ⟨rfl, h2, h3, h4⟩ := hq
  exact ⟨.inl ⟨.bool true, .bool true, [], rfl, fun _ => rfl, .bool true, post_true l _, fun _ => ⟨List.Pairwise.nil, fun _ hm => (nomatch hm)⟩⟩, h2, h3, h4⟩
section
variable {prog : Program} {w : World} {A : Around} {E : Value → Shared → Prop} {s : Shared} {K : Frag}
end
end Att
namespace L2
open PySem PySem.Spec PyProof.Rows
theorem vals_ints : ∀ {vs : List Value} {ns : List Int}, IntsAre vs ns → Vals (ns.map V.int) vs
  | _, _, .nil => .nil
  | _, _, .cons n t h => .cons ⟨t, rfl⟩ (vals_ints h)
noncomputable def Only (H : Hp) : Prop := ∀ b, H b = none ∨ ∃ o xs, H b = some (.frz o (.lst xs))
theorem law_call {P : Program} {w : World} {K : PySem.W.Frag} {mg mb : Str → Option Value} {CX : CXT} {k : Nat} {fa a : Addr} {fd : FuncData} {x : Str} {sp : Sp} {s₁ : Shared} {vs : List Value} {ns : List Int}
    (KX : K.In s₁.heap) (hns : s₁.heap.Ns mainGlobals mg) (hb : s₁.heap.Ns builtinsNs mb) (hbb : ∀ x : Str, x ≠ "__name__" → mb x = bootBuiltins x) (hlim : s₁.heap.NoLimit) (hg : s₁.gens = #[])
    (ha : s₁.heap.get? a = some { cls := .type "list", data := .seq vs.toArray }) (hi : IntsAre vs ns) (hl : ns.length ≤ sizeLine) (hr : Room k callerA)
    (F : ∀ base : Heap, K.In base → base.Ns mainGlobals mg → FnOk P w K mg base CX k fa fd [x] sp) (hbind : ∀ (s : Shared) (u : Value), BindsTo s fd ⟨[u], []⟩ [(x, u)])
    (hsp : ∀ H : Hp, Only H → SqL K H a (ns.map V.int) → sp [.ref a] H (fun v _ => v = .bl true) fun _ _ _ => False)
    (hCX : ∀ H e s', CX [] H s₁ (fun _ _ _ => False) e s' → False) :
    codeAny (model P w) callerA (.call (.ref fa) ⟨[.ref a], []⟩) (fun r s' => r = .ok (.ret (.bool true)) ∧ OldK s₁.heap s'.heap ∧ s'.os = s₁.os ∧ AllBare s'.gens) s₁ := by
  have rv := vals_ints hi
  have lenV := hi.length
  -- from an abstract heap in which nothing but the script may be tracked
  have core : ∀ H : Hp, Only H → SqL K H a (ns.map V.int) → HOk P w H s₁.heap → (∀ b, H b ≠ none → b = a) → (H a ≠ none → K.lookup a = none) →
      codeAny (model P w) callerA (.call (.ref fa) ⟨[.ref a], []⟩) (fun r s' => r = .ok (.ret (.bool true)) ∧ OldK s₁.heap s'.heap ∧ s'.os = s₁.os ∧ AllBare s'.gens) s₁ := by
    intro H hO hS hok hA hK
    have base_of : ∀ {b : Addr} {o : Obj}, s₁.heap.get? b = some o → H b = none → (hidT s₁.heap H).get? b = some o := fun e n => hidT_get e n
    have noA : ∀ {b : Addr} {o : Obj} {es : Array DictEntry} {ep : Nat}, s₁.heap.get? b = some o → o.data = .dict es ep → H b = none := fun {b o es ep} e d => by
      cases q : H b with
      | none => rfl
      | some u =>
        have e' : b = a := hA b (by rw [q]; simp)
        subst e'
        rw [ha] at e; cases e
        have d' : Data.seq vs.toArray _ = Data.dict es ep := d
        cases d'
    have nsK : ∀ {b : Addr} {m : Str → Option Value}, s₁.heap.Ns b m → (hidT s₁.heap H).Ns b m := fun {b m} ⟨o, es, ep, e, d, r⟩ => ⟨o, es, ep, base_of e (noA e d), d, r⟩
    have hKb : K.In (hidT s₁.heap H) := fun b o e => base_of (KX b o e) (by
      cases q : H b with
      | none => rfl
      | some u =>
        have e' : b = a := hA b (by rw [q]; simp)
        subst e'
        rw [hK (by rw [q]; simp)] at e; cases e)
    have hM : Mod K mg (hidT s₁.heap H) := ⟨hKb, nsK hns, ⟨mb, nsK hb, hbb⟩, let ⟨mc, h1, h2⟩ := hlim; ⟨mc, nsK h1, h2⟩⟩
    have e0 : Env0 P w K mg (hidT s₁.heap H) callerA [] s₁ H := ⟨rfl, hM, fun b o e => of_hidT e, Nat.le_of_eq (hidT_size _ _), trivial, fun b hb => absurd (show b ∈ ([] : List Addr) from hb) (by simp), hok, .of_eq hg⟩
    refine codeAny_mono ((F _ hKb (nsK hns)).run callerA [] s₁ H ⟨[.ref a], []⟩ [.ref a] [.ref a] _ _ hr e0 (hbind s₁ (.ref a)) (.cons rfl .nil) (hsp H hO hS)) fun r s' h => ?_
    cases r with
    | error e => exact (hCX H e s' h).elim
    | ok fl =>
      cases fl with
      | next => exact False.elim h
      | brk => exact False.elim h
      | cont => exact False.elim h
      | ret u =>
        obtain ⟨v, H', os, bare, un, hok', r', q⟩ := h
        have q' : v = .bl true := q
        subst q'
        obtain rfl : u = Value.bool true := r'
        refine ⟨rfl, OldK.of_keep fun b o e => ?_, os, bare⟩
        cases q : H b with
        | none => exact un.keep b o e q (by intro z; exact absurd (show b ∈ ([] : List Addr) from z) (by simp)) (by simp)
        | some u =>
          rcases hO b with z | ⟨ob, xs, z⟩
          · rw [q] at z; cases z
          · have z2 := un.frzs b ob _ z
            obtain ⟨e1, _⟩ := hok b _ z
            obtain ⟨e2, _⟩ := hok' b _ z2
            rw [e] at e1; cases e1
            exact e2
  cases hk : K.lookup a with
  | some o =>
    -- the script is one of the module's own objects
    have e := KX a o hk
    rw [ha] at e
    cases e
    refine core (fun _ => none) (fun _ => .inl rfl) (.inr ⟨_, vs.toArray, _, hk, rfl, rfl, rfl, by rw [List.size_toArray, lenV]; exact hl, by simpa using rv⟩) (fun b u z => by have z' : (none : Option HO) = some u := z; cases z') (fun b z => absurd rfl z) fun z => absurd rfl z
  | none =>
    refine core (fun b => if b = a then some (.frz { cls := .type "list", data := .seq vs.toArray } (.lst (ns.map V.int))) else none) (fun b => ?_) (.inl (.inr ⟨{ cls := .type "list", data := .seq vs.toArray }, if_pos rfl⟩)) (fun b u z => ?_) (fun b z => ?_) fun _ => hk
    · by_cases hb : b = a
      · exact .inr ⟨_, _, if_pos hb⟩
      · exact .inl (if_neg hb)
    · by_cases hb : b = a
      · have z' := (if_pos hb).symm.trans z
        cases z'
        subst hb
        exact ⟨ha, by rw [List.length_map]; exact hl, vs, _, rv, ha⟩
      · have z' := (if_neg hb).symm.trans z
        cases z'
    · by_cases hb : b = a
      · exact hb
      · exact absurd (if_neg hb) z
end L2
namespace L2
open PySem PySem.Spec PyProof.Rows
noncomputable abbrev KOf {K : PySem.W.Frag} {h : Heap} (_ : K.In h) : PySem.W.Frag := K
theorem walk_of {l : PySem.W.OpenLaw} {n k : Nat} {q : Program} {loose : List Str} {XP : (Str → Option Value) → Heap → Prop} {YP : World → Heap → Prop} {d : DefRec} {K : Params → PySem.W.Frag} {CX : World → CXT} {sp : World → Sp} {x : Str}
    (hn : l.most = some n) (hn2 : n ≤ sizeLine) (hdf : d.params.defaults = []) (hr : Room k callerA)
    (hY : ∀ (w : World) (h : Heap), YP w h → (K w.params).In h)
    (F : ∀ (w : World) (mg : Str → Option Value) (fa : Addr) (h : Heap), (K w.params).In h → h.Ns mainGlobals mg → mg d.name = some (.ref fa) →
      ∃ fd : FuncData, (∀ (s : Shared) (u : Value), BindsTo s fd ⟨[u], []⟩ [(x, u)]) ∧
        ∀ base : Heap, (K w.params).In base → base.Ns mainGlobals mg → FnOk l.prog w (K w.params) mg base (CX w) k fa fd [x] (sp w))
    (hsp : ∀ (w : World) (H : Hp) (a : Addr) (ns : List Int), ns.length ≤ n → Only H → SqL (K w.params) H a (ns.map V.int) → sp w [.ref a] H (fun v _ => v = .bl true) fun _ _ _ => False)
    (hCX : ∀ (w : World) (H : Hp) (s : Shared) (e : Value) (s' : Shared), CX w [] H s (fun _ _ _ => False) e s' → False) :
    PySem.W.WalkO q loose XP YP l.row.toRowW d [] (fun f vs => PySem.call f vs) := by
  refine Att.attach_call hn hdf fun w s₀ s₁ mg mb fa o pm cd doc a vs ns G Y ho hd hcd hmg hobj hints hlen hg => ?_
  have KX := hY w _ Y
  obtain ⟨fd, hb, hF⟩ := F w mg fa _ KX G.T.g hmg
  exact law_call KX G.T.g G.T.b G.T.builtins G.T.nolimit hg hobj hints (Nat.le_trans hlen hn2) hr hF hb (fun H hO hS => hsp w H a ns hlen hO hS) fun H e s' => hCX w H s₁ e s'
end L2
/- THE LAST THEOREM (shape; LID, My.* are yours):
   My.Adr: a structure of the addresses that your layer names (classes, functions); My.Txt K t: a structure (Prop) of the equations over K;
   My.txt_mk : {K} {implicit addresses ..} (e1 : nsIn K mainGlobals "law" = some (some (.ref f))) (e2 : K.lookup f = some ⟨oc, od, .func (fnOf "law" "law" params body scope dV kV doc pm an cdv ct), sl⟩) (e3 : codeIn K cdv "law" = true) .. : ∃ t, My.Txt K t
(the tactic k_is has no namespace: write k_is) -/
namespace L2
open PySem PySem.Spec PyProof.Rows
noncomputable def defArgs (s : Stmt) : Arguments := match s with
  | .FunctionDef _ a _ _ _ _ _ _ _ _ => a
  | _ => { posonlyargs := [], args := [], vararg := none, kwonlyargs := [], kw_defaults := [], kwarg := none, defaults := [] }
noncomputable def defBody (s : Stmt) : List Stmt := match s with
  | .FunctionDef _ _ b _ _ _ _ _ _ _ => b
  | _ => []
noncomputable def defScope (s : Stmt) : Scope := match s with
  | .FunctionDef _ _ _ _ _ _ sc _ _ _ => sc
  | _ => { kind := .function, names := [], isGenerator := false, isCoroutine := false }
noncomputable abbrev CX0 : CXT := fun _ _ _ _ _ _ => False
noncomputable abbrev E0 : XK := fun _ _ _ => False
theorem pass0 {X : Cx} : Passes CX0 X E0 := fun _ _ _ _ _ _ _ h => h.elim
structure Fun (K : PySem.W.Frag) (x qual : Str) (st : Stmt) (f : Addr) (fd : FuncData) : Prop where
  ex : ∃ (oc : Value) (od : Option Addr) (kV doc pm : Value) (an : Option Addr) (cdv ct : Value) (osl : Array (Option Value)),
    fd = PySem.W.fnOf x qual (defArgs st) (defBody st) (defScope st) .none kV doc pm an cdv ct ∧ K.lookup f = some ⟨oc, od, .func fd, osl⟩ ∧ PySem.W.codeIn K cdv qual = true
  kp : PySem.W.keepIn K (.ref f) = true
section
variable {P : Program} {w : World} {K : PySem.W.Frag} {mg : Str → Option Value} {base : Heap}
theorem Fun.ok {x qual : Str} {st : Stmt} {f : Addr} {fd : FuncData} {N ps : List Str} {k : Nat} {sp : Sp} (F : Fun K x qual st f fd) (S : FnScope N ps (defScope st)) (len : ∀ vs H Q E, sp vs H Q E → vs.length = ps.length)
    (hbody : ∀ (cdv : Value) (A : Around) (outer : List Env) (s : Shared) (H : Hp) (vs : List V) (Q : VK) (E : XK), Room k (A.deeper (envOfC qual (defScope st) s.heap.objs.size f cdv)) → sp vs H Q E →
      ∃ t, PSs (cxOf CX0 P w K mg base N qual (defScope st) f cdv A outer s H E).nox (defBody st) t ∧ t { nx := fun _ H' => Q .non H', rt := Q } (start N vs) H) : FnOk P w K mg base CX0 (k + 1) f fd ps sp := by
  obtain ⟨oc, od, kV, doc, pm, an, cdv, ct, osl, rfl, lk, hcd⟩ := F.ex
  refine fn_of lk hcd S len fun A outer s H vs Q E hr hsp => ?_
  obtain ⟨t, h, q⟩ := hbody cdv A outer s H vs Q E hr hsp
  exact ⟨t, h.nox, q⟩
theorem Fun.binds {x qual : Str} {st : Stmt} {f : Addr} {fd : FuncData} {ps : List Str} (F : Fun K x qual st f fd)
    (h : ∀ (kV doc pm : Value) (an : Option Addr) (cdv ct : Value) (us : List Value), us.length = ps.length → bindArgs (PySem.W.fnOf x qual (defArgs st) (defBody st) (defScope st) .none kV doc pm an cdv ct) ⟨us, []⟩ = pure (ps.zip us)) : Binds K fd ps [] := by
  obtain ⟨oc, od, kV, doc, pm, an, cdv, ct, osl, rfl, lk, hcd⟩ := F.ex
  exact .all (h kV doc pm an cdv ct)
theorem fun_mk {x qual : Str} {st : Stmt} {f : Addr} {oc : Value} {od an : Option Addr} {osl : Array (Option Value)} {kV doc pm cdv ct : Value} (l : K.lookup f = some ⟨oc, od, .func (PySem.W.fnOf x qual (defArgs st) (defBody st) (defScope st) .none kV doc pm an cdv ct), osl⟩)
    (c : PySem.W.codeIn K cdv qual = true) (k : PySem.W.keepIn K (.ref f) = true) : Fun K x qual st f (PySem.W.fnOf x qual (defArgs st) (defBody st) (defScope st) .none kV doc pm an cdv ct) := ⟨⟨oc, od, kV, doc, pm, an, cdv, ct, osl, rfl, l, c⟩, k⟩
end
section
variable {X : Cx}
end
end L2
namespace L2
open PySem PySem.Spec PyProof.Rows
noncomputable def PTs (X : Cx) (ifs : List Expr) (t : TT) : Prop :=
  ∀ (pins : List (Addr × Obj)) (s : Shared) (σ : St) (H : Hp) (Q : Bool → Hp → Prop), Inv X pins σ H s → t σ H Q →
    wpAny (model X.prog X.w) X.A (forIn ifs true fun c r => if r = true then do let ok ← isTrue c X.env (eval c X.env); pure (ForInStep.yield ok) else pure (ForInStep.yield r)) (TP X pins σ Q) X.xe s
noncomputable def tTrue : TT := fun _ H Q => Q true H
theorem pts_nil {X : Cx} : PTs X [] tTrue := fun _ _ _ H _ I h => wpAny_tests_nil ⟨H, I, h⟩
theorem pts_one {X : Cx} {c : Expr} {t : TT} (h : PT X c t) : PTs X [c] t := fun pins s σ H Q I q => wpAny_tests_one (h pins s σ H Q I q)
theorem compLoop_go {prog : Program} {w : World} {A : Around} {R : Result → Shared → Prop} {s : Shared} {elt target iter : Expr} {ifs : List Expr} {scope : Scope} {pos : Pos} {it acc : Value} {env : Env} (I : Nat → Shared → Prop)
    (turn : ∀ n s, I n s → wpAny (model prog w) A (pyNext it) (fun r s₁ => match r with
      | none => R (.ok .next) s₁
      | some v => wpAny (model prog w) A (letOwnedTupleGo target it v) (fun _ s₁ => wpAny (model prog w) A (assign target env v) (fun _ s₂ =>
          wpAny (model prog w) A (forIn ifs true fun c r => if r = true then do let ok ← isTrue c env (eval c env); pure (ForInStep.yield ok) else pure (ForInStep.yield r)) (fun ok s₃ =>
            if ok = true then wpAny (model prog w) A (eval elt env) (fun x s₄ =>
              wpAny (model prog w) A (call (.builtin "list.append") [acc, x]) (fun _ s₅ => ∃ m, m < n ∧ I m s₅) (fun _ _ => False) s₄) (fun _ _ => False) s₃
            else ∃ m, m < n ∧ I m s₃) (fun _ _ => False) s₂) (fun _ _ => False) s₁) (fun _ _ => False) s₁) (fun _ _ => False) s)
    (n : Nat) (h : I n s) :
    codeAny (model prog w) A (.compLoop (.ListComp elt [⟨target, iter, ifs, 0⟩] scope pos) 0 it acc env) R s := by
  refine codeAny_loop rfl I (fun n s hI => ?_) n h
  show wpAny _ A ((compTurn (.ListComp elt [⟨target, iter, ifs, 0⟩] scope pos) 0 it acc env).onRaise (fun x => do noteFrame x env; theTreesLotGoes x)) _ _ s
  refine wpAny_noted ?_
  rw [compTurn_list]
  refine wpAny_noRaise ?_
  refine wpAny_bind (wpAny_standAt (wpAny_bind (wpAny_mono (turn n s hI) (fun r s₁ h₁ => ?_) fun _ _ h' => h')))
  cases r with
  | none => exact wpAny_pure h₁
  | some v =>
    refine wpAny_bind (wpAny_mono h₁ (fun _ s₁' h₁' => ?_) fun _ _ h' => h')
    refine wpAny_bind (wpAny_mono h₁' (fun _ s₂ h₂ => wpAny_bind (wpAny_mono h₂ (fun ok s₃ h₃ => ?_) fun _ _ h' => h')) fun _ _ h' => h')
    cases ok with
    | false => exact wpAny_pure ⟨rfl, h₃⟩
    | true =>
      exact wpAny_bind (wpAny_bind (wpAny_mono h₃ (fun x s₄ h₄ => wpAny_bind (wpAny_mono h₄ (fun _ s₅ h₅ => wpAny_pure (wpAny_pure ⟨rfl, h₅⟩)) fun _ _ h' => h')) fun _ _ h' => h'))
noncomputable def cxComp (X : Cx) (scope : Scope) (cl : List (Str × Addr)) (C : Addr) (s₀ : Shared) (H₀ : Hp) (fp : List Addr) (N' : List Str) : Cx :=
  { X with N := N', s₀ := s₀, H₀ := H₀, env := compEnvC scope cl C X.env, outer := X.stack, ex := fp, fn := fun _ => false, pn := [] }
theorem closure_of {env : Env} : ∀ (names : List (Str × NameKind)) (cs : List (Str × Addr)), (∀ y ∈ names, y.2 = .free → ∃ a, env.cells.lookup y.1 = some a) → (∀ x c, cs.lookup x = some c → env.cells.lookup x = some c) →
    ∃ cl : List (Str × Addr), (forIn names cs fun (y : Str × NameKind) (r : List (Str × Addr)) => if (y.2 == NameKind.free) = true then do let a ← cellOf env y.1; pure (ForInStep.yield ((y.1, a) :: r)) else pure (ForInStep.yield r) : Sem (List (Str × Addr))) = pure cl ∧
      (∀ x c, cl.lookup x = some c → env.cells.lookup x = some c) ∧ (∀ x, ((x, NameKind.free) ∈ names ∨ ∃ c, cs.lookup x = some c) → ∃ c, cl.lookup x = some c)
  | [], cs, _, h => ⟨cs, rfl, h, fun x hx => by
      rcases hx with z | z
      · cases z
      · exact z⟩
  | (n, k) :: r, cs, hf, h => by
    by_cases hk : k = .free
    · subst hk
      obtain ⟨a, ha⟩ := hf (n, .free) (by simp) rfl
      obtain ⟨cl, e, h1, h2⟩ := closure_of r ((n, a) :: cs) (fun y hy => hf y (List.mem_cons_of_mem _ hy)) (fun x c q => by
        rw [List.lookup_cons] at q
        cases hx : x == n with
        | true =>
          rw [hx] at q
          have : x = n := by simpa using hx
          subst this
          cases q; exact ha
        | false => rw [hx] at q; exact h x c q)
      refine ⟨cl, ?_, h1, fun x hx => ?_⟩
      · rw [List.forIn_cons]
        have e0 : cellOf env n = pure a := by unfold cellOf; rw [ha]
        simp only [beq_self_eq_true, if_true, e0]
        exact e
      · have hc : ∀ z c, cs.lookup z = some c → ∃ c, ((n, a) :: cs).lookup z = some c := fun z c q => by
          rw [List.lookup_cons]
          cases z == n with
          | true => exact ⟨a, rfl⟩
          | false => exact ⟨c, q⟩
        rcases hx with z | ⟨c, z⟩
        · rcases List.mem_cons.mp z with q | q
          · cases q
            exact h2 n (.inr ⟨a, by simp [List.lookup_cons]⟩)
          · exact h2 x (.inl q)
        · exact h2 x (.inr (hc x c z))
    · obtain ⟨cl, e, h1, h2⟩ := closure_of r cs (fun y hy => hf y (List.mem_cons_of_mem _ hy)) h
      have hb : (k == NameKind.free) = false := by simpa using hk
      refine ⟨cl, ?_, h1, fun x hx => ?_⟩
      · rw [List.forIn_cons]
        simp only [hb, Bool.false_eq_true, if_false]
        exact e
      · rcases hx with z | z
        · rcases List.mem_cons.mp z with q | q
          · cases q; exact absurd rfl hk
          · exact h2 x (.inl q)
        · exact h2 x (.inr z)
theorem closureFor_of {env : Env} {scope : Scope} (h : ∀ y ∈ scope.names, y.2 = .free → ∃ a, env.cells.lookup y.1 = some a) :
    ∃ cl : List (Str × Addr), closureFor scope env = pure cl ∧ (∀ x c, cl.lookup x = some c → env.cells.lookup x = some c) ∧ (∀ x, (x, NameKind.free) ∈ scope.names → ∃ c, cl.lookup x = some c) := by
  obtain ⟨cl, e, h1, h2⟩ := closure_of (env := env) scope.names [] h (fun x c q => by cases q)
  refine ⟨cl, ?_, h1, fun x hx => h2 x (.inl hx)⟩
  exact Eq.trans (congrArg (fun t : Sem (List (Str × Addr)) => t >>= fun cs => pure cs) e) rfl
theorem lookup_mem {x : Str} {k : NameKind} : ∀ {names : List (Str × NameKind)}, names.lookup x = some k → (x, k) ∈ names
  | [], h => by cases h
  | (n, j) :: r, h => by
    rw [List.lookup_cons] at h
    cases hx : x == n with
    | true =>
      rw [hx] at h
      have : x = n := by simpa using hx
      subst this
      cases h; simp
    | false => rw [hx] at h; exact List.mem_cons_of_mem _ (lookup_mem h)
theorem lookup_relabel_free {env : Env} (hf : env.scope.kind = .function) : ∀ {names : List (Str × NameKind)} {x : Str}, names.lookup x = some .free → env.kindOf x = some .cell →
    (names.map fun (n, k) => if (k == NameKind.free && env.scope.kind == .function && env.kindOf n == some .cell) then (n, NameKind.cell) else (n, k)).lookup x = some .cell
  | [], _, h, _ => by cases h
  | (n, k) :: r, x, h, hc => by
    have ih := @lookup_relabel_free env hf r x
    show List.lookup x ((if (k == NameKind.free && env.scope.kind == .function && env.kindOf n == some .cell) = true then (n, NameKind.cell) else (n, k)) :: _) = _
    cases hx : x == n with
    | true =>
      have : x = n := by simpa using hx
      subst this
      simp only [List.lookup_cons, hx] at h
      cases h
      rw [if_pos (by simp [hf, hc])]
      simp [List.lookup_cons]
    | false =>
      simp only [List.lookup_cons, hx] at h
      by_cases hq : (k == NameKind.free && env.scope.kind == .function && env.kindOf n == some .cell) = true
      · rw [if_pos hq]; simp only [List.lookup_cons, hx]; exact ih h hc
      · rw [if_neg hq]; simp only [List.lookup_cons, hx]; exact ih h hc
theorem relabel_kind {env : Env} : ∀ {names : List (Str × NameKind)} {x : Str} {k : NameKind}, (names.map fun (n, k) => if (k == NameKind.free && env.scope.kind == .function && env.kindOf n == some .cell) then (n, NameKind.cell) else (n, k)).lookup x = some k →
    names.lookup x = some k ∨ (names.lookup x = some .free ∧ k = .cell)
  | [], _, _, h => by cases h
  | (n, j) :: r, x, k, h => by
    have ih := @relabel_kind env r x k
    have h' : List.lookup x ((if (j == NameKind.free && env.scope.kind == .function && env.kindOf n == some .cell) = true then (n, NameKind.cell) else (n, j)) :: (r.map fun (n, k) => if (k == NameKind.free && env.scope.kind == .function && env.kindOf n == some .cell) then (n, NameKind.cell) else (n, k))) = some k := h
    by_cases hq : (j == NameKind.free && env.scope.kind == .function && env.kindOf n == some .cell) = true
    · rw [if_pos hq] at h'
      have hj : j = .free := by
        have := Bool.and_eq_true_iff.mp (Bool.and_eq_true_iff.mp hq).1
        simpa using this.1
      simp only [List.lookup_cons] at h' ⊢
      cases hx : x == n with
      | true => rw [hx] at h'; cases h'; exact .inr ⟨by rw [hj], rfl⟩
      | false => rw [hx] at h'; exact ih h'
    · rw [if_neg hq] at h'
      simp only [List.lookup_cons] at h' ⊢
      cases hx : x == n with
      | true => rw [hx] at h'; cases h'; exact .inl rfl
      | false => rw [hx] at h'; exact ih h'
noncomputable def capσ (ix : List Nat) (σ : St) : St := none :: ix.map fun i => (σ[i]?).join
noncomputable abbrev CompW (J : It) (tt : TT) (te : TE) (σ' : V → St) (acc : Addr) (H1 : Hp) (Q : VK) : Prop :=
  ∃ W : Nat → Nat → List V → Hp → Prop, (∃ m, W 0 m [] (upd H1 acc (.lst []))) ∧ ∀ i m ys H, W i m ys H →
    (J.stop i H ∧ Q (.ref acc) H) ∨ (J.go i H ∧ ∀ x H', J.yld i H x H' → tt (σ' x) H' fun b H2 => if b = true then te (σ' x) H2 fun y H3 =>
        H3 acc = some (.lst ys) ∧ ys.length < sizeLine ∧ ∃ m', m' < m ∧ W (i + 1) m' (ys ++ [y]) (upd H3 acc (.lst (ys ++ [y])))
      else ∃ m', m' < m ∧ W (i + 1) m' ys H2)
noncomputable def tComp (wi : TI) (ix : List Nat) (tt : TT) (te : TE) : TE := fun σ H Q => wi σ H fun J H1 => ∀ acc, H1 acc = none → CompW J tt te (fun x => (capσ ix σ).set 0 (some x)) acc H1 Q
theorem HOk.sameBut {P : Program} {w : World} {H : Hp} {h h' : Heap} {C : Addr} (x : HOk P w H h) (hn : H C = none) (k : ∀ b u, b ≠ C → h.get? b = some u → h'.get? b = some u) : HOk P w H h' := fun b u e => by
  have nC : ∀ b u, H b = some u → b ≠ C := fun b u e z => by rw [z, hn] at e; cases e
  refine (x b u e).stay (fun c v hc q => k c v ?_ q) (fun _ q => q) fun _ _ q => q
  rcases hc with z | z
  · rw [z]; exact nC b u e
  · exact nC c _ z
theorem pe_comp {X : Cx} {elt iter : Expr} {x : Str} {px : Pos} {ifs : List Expr} {scope osc : Scope} {pos : Pos} {wi : TI} {tt : TT} {te : TE} (ix : List Nat) (N' : List Str)
    (hxe : X.xe = fun _ _ => False) (hc : X.calm = true) (ho : X.env.scope = osc) (hN : N' = x :: ix.map fun i => (X.N[i]?).getD x) (hnd : N'.Nodup)
    (hall : (∀ y ∈ scope.names, y.2 = .free → osc.names.lookup y.1 = some .cell) ∧ (∀ y ∈ scope.names, y.2 ≠ .cell) ∧ scope.kind = .function ∧ (∀ y ∈ scope.names, y.2 = .local → scope.names.lookup y.1 = some .local) ∧ scope.names.lookup x = some .local ∧ (∀ y ∈ N'.tail, scope.names.lookup y = some .free))
    (hi : PI X (.Name x px) iter wi)
    (ht : ∀ cl C s₀ H₀ fp, PTs (cxComp X scope cl C s₀ H₀ fp N') ifs tt)
    (he : ∀ cl C s₀ H₀ fp, PE (cxComp X scope cl C s₀ H₀ fp N') elt te)
    (hs : ∀ x, foldedSetIterable iter X.env x = pure x := by intro _; rfl) :
    PE X (.ListComp elt [⟨.Name x px, iter, ifs, 0⟩] scope pos) (tComp wi ix tt te) := by
  intro pins s σ H Q I h
  obtain ⟨hfr, hcell, hkind, hnames, hx, hcap⟩ := hall
  subst ho
  have outc : ∀ y ∈ scope.names, y.2 = .free → X.env.kindOf y.1 = some .cell := fun y hy q => hfr y hy q
  obtain ⟨cl, hclos, hcl1, hcl2⟩ := closureFor_of (env := X.env) (scope := scope) fun y hy q => I.ok.has y.1 (.inl (outc y hy q))
  rw [eval_ListComp]
  refine wpAny_comprehension_free (use := none) rfl hs hclos hkind hnames (thn (hi pins s σ H _ I h) fun v s1 h1 => thn h1 fun itv s2 h2 => ?_)
  obtain ⟨it, fp, tn, J, H2, e, I2, T, st2, f2, rest⟩ := h2
  subst e
  have hf2 : H2 s2.heap.objs.size = none := I2.hok.fresh (Nat.le_refl _)
  obtain ⟨W, ⟨m0, w0⟩, turn⟩ := rest s2.heap.objs.size hf2
  -- the list
  refine wpAny_newObj_type ?_
  have I3 : Inv X pins σ (upd H2 s2.heap.objs.size (.lst [])) { s2 with heap := s2.heap.push { cls := .type "list", dict := none, data := .seq ([] : List Value).toArray } } := I2.lnew (its := []) (t' := s2.toks) .nil (Nat.zero_le _)
  have keep3 : ∀ b o, s2.heap.get? b = some o → (s2.heap.push { cls := .type "list", dict := none, data := .seq ([] : List Value).toArray }).get? b = some o := fun b o q => Heap.get?_push_of_some _ q
  have fp3 : ∀ b ∈ fp, ∃ o, s2.heap.get? b = some o ∧ ∀ v, o.data ≠ .cell v := T.obj _ _ st2
  have st3 : tn 0 (s2.heap.push { cls := .type "list", dict := none, data := .seq ([] : List Value).toArray }) := T.keep _ _ _ st2 fun b _ o q => keep3 b o q
  have fpn : ∀ b ∈ fp, (upd H2 s2.heap.objs.size (HO.lst [])) b = none := fun b hb => by
    obtain ⟨o, q, _⟩ := fp3 b hb
    rw [upd_ne (Nat.ne_of_lt (Heap.lt_size q))]
    exact (f2 b hb).1
  revert I3 keep3 st3 fpn w0
  generalize hS3 : ({ s2 with heap := s2.heap.push { cls := .type "list", dict := none, data := .seq ([] : List Value).toArray } } : Shared) = s3
  generalize hH3 : upd H2 s2.heap.objs.size (HO.lst []) = H3
  intro w0 I3 keep3 st3 fpn
  have acc3 : H3 s2.heap.objs.size = some (.lst []) := by rw [← hH3]; exact upd_same
  generalize s2.heap.objs.size = acc at *
  have e3 : s2.heap.push { cls := .type "list", dict := none, data := .seq ([] : List Value).toArray } = s3.heap := by rw [← hS3]
  have keep3' : ∀ b o, s2.heap.get? b = some o → s3.heap.get? b = some o := fun b o q => by rw [← e3]; exact keep3 b o q
  have st3' : tn 0 s3.heap := by rw [← e3]; exact st3
  refine wpAny_newFunctionEnv hcell (by intro y hy; simp at hy) (fun h₁ hns₁ hsb₁ => ?_) hkind
  have hC : s3.heap.objs.size = s3.heap.objs.size := rfl
  have keep4 : ∀ b o, s3.heap.get? b = some o → h₁.get? b = some o := fun b o q => hsb₁.extBut b o (Nat.ne_of_lt (Heap.lt_size q)) (Heap.get?_push_of_some _ q)
  have fpC : ∀ b ∈ fp, b ≠ s3.heap.objs.size := fun b hb => by
    obtain ⟨o, q, _⟩ := fp3 b hb
    exact Nat.ne_of_lt (Heap.lt_size (keep3' b o q))
  -- the block's context
  generalize hX' : cxComp X scope cl s3.heap.objs.size s3 H3 fp N' = X'
  have hXp : X'.prog = X.prog := by rw [← hX']; rfl
  have hXw : X'.w = X.w := by rw [← hX']; rfl
  have hXK : X'.K = X.K := by rw [← hX']; rfl
  have hXA : X'.A = X.A := by rw [← hX']; rfl
  have hXe : X'.env = compEnvC scope cl s3.heap.objs.size X.env := by rw [← hX']; rfl
  have hXc : X'.calm = true := by rw [← hX']; exact hc
  have hXx : X'.xe = fun _ _ => False := by rw [← hX']; exact hxe
  have hXf : X'.fs = frs X.stack := by rw [← hX']; rfl
  have hXex : X'.ex = fp := by rw [← hX']; rfl
  have hXN : X'.N = N' := by rw [← hX']; rfl
  have hXs : X'.s₀ = s3 := by rw [← hX']; rfl
  have hXH : X'.H₀ = H3 := by rw [← hX']; rfl
  have hXpn : X'.pn = [] := by rw [← hX']; rfl
  have okX : X'.Ok := by
    rw [← hX']
    refine ⟨I3.ok.mod, hkind, I3.ok.glob, I3.ok.blt, Nat.le_refl _, fun a b c p q => I3.ok.inj a b c (hcl1 a c p) (hcl1 b c q), fun y hy => ?_, fun _ _ z => (by cases z), I3.ok.hd, I3.ok.frames, .inl rfl, fun b hb => ⟨fpC b hb, fun y c p => (f2 b hb).2.2.2.2.1 y c (hcl1 y c p)⟩,
      I3.bs, Nat.le_trans I3.ok.bsz I3.sz, fun b o p hb => ?_, fun b hb z => ?_, I3.stack, I3.stkFree⟩
    · have hy' : (relabel scope X.env).names.lookup y = some .cell ∨ (relabel scope X.env).names.lookup y = some .free := hy
      have free : scope.names.lookup y = some .free → ∃ c, cl.lookup y = some c := fun q => hcl2 y (lookup_mem q)
      rcases hy' with q | q
      · rcases relabel_kind q with z | ⟨z, _⟩
        · exact absurd rfl (hcell _ (lookup_mem z))
        · exact free z
      · rcases relabel_kind q with z | ⟨_, z⟩
        · exact free z
        · cases z
    · rcases (f2 b hb).2.2.2.1 with z | z
      · exact I3.ok.noex b o p z
      · exact absurd (Nat.lt_of_lt_of_le (Heap.lt_size p) (Nat.le_trans I3.ok.bsz z)) (Nat.lt_irrefl _)
    · rcases List.mem_cons.mp (I3.stkSub b z) with q | q
      · exact (f2 b hb).2.1 q
      · exact (f2 b hb).2.2.1 q
  have I4 : ∀ tk, Inv X' [] (capσ ix σ) H3 { s3 with heap := h₁, toks := tk } := fun tk => by
    have hloc := I3.loc
    refine ⟨okX, by rw [hXs], I3.bare, ?_, ⟨fun y => ([] : List (Str × Value)).reverse.lookup y, by rw [hXe]; exact hns₁, fun i y v e1 e2 e3 => ?_⟩, fun y c p => ?_, ?_, fun y c p => ?_, fun p hp => ?_, ?_, ?_⟩
    · rw [hXf, hXex, hXH, hXs]; exact Un.kept keep4
    · rw [hXN, hN] at e1
      cases i with
      | zero => simp [capσ] at e2
      | succ j =>
        have e1' : (ix.map fun i => (X.N[i]?).getD x)[j]? = some y := by simpa using e1
        have e2' : (ix.map fun i => (σ[i]?).join)[j]? = some (some v) := by simpa [capσ] using e2
        rw [List.getElem?_map] at e1' e2'
        cases hj : ix[j]? with
        | none => rw [hj] at e1'; cases e1'
        | some i0 =>
          rw [hj] at e1' e2'
          have e1'' : (X.N[i0]?).getD x = y := by simpa using e1'
          have e2'' : (σ[i0]?).join = some v := by simpa using e2'
          have hsv : σ[i0]? = some (some v) := by
            cases q : σ[i0]? with
            | none => rw [q] at e2''; cases e2''
            | some z => rw [q] at e2''; have : z = some v := by simpa using e2''
                        rw [this]
          have hlt : i0 < X.N.length := by
            have := (List.getElem?_eq_some_iff.mp hsv).1
            rw [I3.len] at this; exact this
          have hNy : X.N[i0]? = some y := by
            rw [List.getElem?_eq_getElem hlt] at e1'' ⊢
            simpa using e1''
          have hyt : y ∈ N'.tail := by
            rw [hN]
            exact List.mem_of_getElem? (by simpa using e1)
          have hyf := hcap y hyt
          have hyc := outc (y, .free) (lookup_mem hyf) rfl
          obtain ⟨m, hn, hl⟩ := hloc
          obtain ⟨u, r, l⟩ := hl i0 y v hNy hsv (.inr (.inl hyc))
          refine ⟨u, r, ?_⟩
          rcases l with ⟨k1, _⟩ | ⟨_, c, p, z⟩
          · have hyc' : X.env.kindOf y = some .cell := hyc
            rw [k1] at hyc'; cases hyc'
          · obtain ⟨c', p'⟩ := hcl2 y (lookup_mem hyf)
            have pc : c' = c := by
              have := hcl1 y c' p'
              rw [p] at this; cases this; rfl
            subst pc
            refine .inr ⟨.inl ?_, c', by rw [hXe]; exact p', ?_⟩
            · rw [hXe]; exact lookup_relabel_free I3.ok.kind hyf hyc
            · obtain ⟨o, q1, q2⟩ := z
              exact ⟨o, keep4 c' o q1, q2⟩
    · rw [hXe] at p
      obtain ⟨v, o, q1, q2⟩ := I3.cell y c (hcl1 y c p)
      exact ⟨v, o, keep4 c o q1, q2⟩
    · rw [hXe]; exact I3.hok.fresh (Nat.le_refl _)
    · rw [hXe] at p; exact I3.freeC y c (hcl1 y c p)
    · rw [hXpn] at hp; cases hp
    · rw [hXp, hXw]; exact I3.hok.kept keep4
    · rw [hXN, hN]; simp [capσ]
  -- the loop
  have stat : ∀ {H' : Hp}, (∀ b ∈ fp, H' b = none) → ∀ b ∈ fp, FpOk X' [] H' b := fun hn b hb => by
    refine ⟨hn b hb, by rw [hXe]; exact fpC b hb, ?_, .inl (by rw [hXex]; exact hb), fun y c p => ?_, fun p hp => by rw [hXpn] at hp; cases hp⟩
    · rw [hXf]; intro z
      rcases List.mem_cons.mp (I3.stkSub b z) with q | q
      · exact (f2 b hb).2.1 q
      · exact (f2 b hb).2.2.1 q
    · rw [hXe] at p; exact (f2 b hb).2.2.2.2.1 y c (hcl1 y c p)
  have fin : ∀ {H5 : Hp} {s5 : Shared} {σ5 : St}, Inv X' [] σ5 H5 s5 → Q (.ref acc) H5 → compPost (model X.prog X.w) X.A X.xe none (EP X pins σ Q) (.ref acc) s3.heap.objs.size (.ok .next) s5 := fun {H5 s5 σ5} I5 q => by
    obtain ⟨m, hn, _⟩ := I5.loc
    rw [hXe] at hn
    refine ⟨m, hn, fun h' sb => ?_⟩
    have kb : ∀ b o, b ≠ s3.heap.objs.size → s5.heap.get? b = some o → h'.get? b = some o := fun b o hb z => sb.extBut b o hb z
    have u5 := I5.base
    rw [hXf, hXex, hXH, hXs] at u5
    have nC : ∀ b o, s3.heap.get? b = some o → b ≠ s3.heap.objs.size := fun b o z => Nat.ne_of_lt (Heap.lt_size z)
    have un : Un (frs X.stack) fp H3 H5 s3.heap h' := ⟨fun b o z n a c => kb b o (nC b o z) (u5.keep b o z n a c), fun b o z n a c => by
      obtain ⟨sl, y⟩ := u5.slot b o z n a c
      exact ⟨sl, kb b _ (nC b o z) y⟩, u5.free, fun b o z c => by
      obtain ⟨o', y⟩ := u5.there b o z c
      exact ⟨o', kb b _ (nC b o z) y⟩, u5.tups, u5.frzs, u5.tbls⟩
    have fr : H5 s3.heap.objs.size = none := by have := I5.free; rw [hXe] at this; exact this
    have hok5 := I5.hok
    rw [hXp, hXw] at hok5
    have hos : s5.os = s3.os := by have := I5.os; rw [hXs] at this; exact this
    refine ⟨.ref acc, H5, I3.call' (s' := { s5 with heap := h' }) (ch := fp) hos un (hok5.sameBut fr kb) I5.bare (fun b hb => ?_), rfl, q⟩
    obtain ⟨g0, g1, g2, g3, g4, g5⟩ := f2 b hb
    exact ⟨g3, g1, g4, g5⟩
  have loop : ∀ tk, codeAny (model X.prog X.w) X.A (.compLoop (.ListComp elt [⟨.Name x px, iter, ifs, 0⟩] scope pos) 0 (.ref it) (.ref acc) (compEnvC scope cl s3.heap.objs.size X.env))
      (compPost (model X.prog X.w) X.A X.xe none (EP X pins σ Q) (.ref acc) s3.heap.objs.size) { s3 with heap := h₁, toks := tk } := fun tk => by
    refine compLoop_go (fun n s' => ∃ i ys σ' H', Inv X' [] σ' H' s' ∧ (∃ v, σ' = (capσ ix σ).set 0 v) ∧ tn i s'.heap ∧ (∀ b ∈ fp, H' b = none) ∧ W i n ys H') (fun n s5 h5 => ?_) m0
      ⟨0, [], capσ ix σ, H3, I4 tk, ⟨none, rfl⟩, T.keep _ _ _ st3' fun b _ o q => keep4 b o q, fpn, w0⟩
    obtain ⟨i, ys, σ5, H5, I5, ⟨v5, hσ⟩, st5, fr5, w5⟩ := h5
    rcases turn i n ys H5 w5 with ⟨stop, q⟩ | ⟨go, step⟩
    · have d := T.done X' hXp hXw hXK hXc i [] s5 σ5 H5 (fun _ _ => False) I5 (stat fr5) st5 stop
      rw [hXA] at d
      refine thn d fun r s6 ⟨hr, I6⟩ => ?_
      subst hr
      exact fin I6 q
    · have d := T.item X' hXp hXw hXK hXc i [] s5 σ5 H5 (fun _ _ => False) I5 (stat fr5) st5 go
      rw [hXA] at d
      refine thn d fun r s6 ⟨u, hr, h6⟩ => ?_
      subst hr
      refine thn h6 fun _ s7 ⟨z, H7, I7, r7, y7, st7, fr7⟩ => ?_
      have I7' := I7.pinned (stat fr7) (T.obj _ _ st7)
      have again : ∀ {H9 : Hp} {s9 : Shared} {ys9 : List V} {v9 : Option V}, Inv X' ([] ++ pinsAt fp s7.heap) ((capσ ix σ).set 0 v9) H9 s9 → (∃ m', m' < n ∧ W (i + 1) m' ys9 H9) → ∃ m', m' < n ∧ ∃ i ys σ' H', Inv X' [] σ' H' s9 ∧ (∃ v, σ' = (capσ ix σ).set 0 v) ∧ tn i s9.heap ∧ (∀ b ∈ fp, H' b = none) ∧ W i m' ys H' := fun {H9 s9 ys9 v9} I9 ⟨m', hm, w9⟩ => by
        refine ⟨m', hm, i + 1, ys9, _, H9, I9.unpinned, ⟨v9, rfl⟩, T.keep _ _ _ st7 fun b hb o e => (I9.pin (b, o) (List.mem_append_right _ (List.mem_append_right _ (mem_pinsAt hb e)))).1, fun b hb => ?_, w9⟩
        obtain ⟨o, e, _⟩ := T.obj _ _ st7 b hb
        exact (I9.pin (b, o) (List.mem_append_right _ (List.mem_append_right _ (mem_pinsAt hb e)))).2.1
      have es : σ5.set 0 (some z) = (capσ ix σ).set 0 (some z) := by rw [hσ]; simp [List.set_set]
      have ht' := ht cl s3.heap.objs.size s3 H3 fp
      have he' := he cl s3.heap.objs.size s3 H3 fp
      rw [hX'] at ht' he'
      rw [← hXe]
      refine wpAny_assign_Name (store_ok (X := X') (i := 0) I7' (by rw [hXN]; exact hnd) (by rw [hXN, hN]; rfl) (.inl ?_) r7 (fun s8 I8 => ?_) (.inr ?_))
      · rw [hXe]; exact lookup_relabel_local hx
      · rw [es] at I8
        have a1 := ht' _ s8 _ H7 _ I8 (step z H7 y7)
        rw [hXp, hXw, hXA, hXx] at a1
        refine thn a1 fun b s9 ⟨H9, I9, q9⟩ => ?_
        cases b with
        | false => exact again I9 q9
        | true =>
          have a2 := he' _ s9 _ H9 _ I9 q9
          rw [hXp, hXw, hXA, hXx] at a2
          refine thn a2 fun yv s10 ⟨y, H10, I10, r10, q1, q2, q3⟩ => ?_
          have a3 := mt_append (X := X') _ s10 _ H10 (.ref acc) [y] (.ref acc) [yv] (fun _ Hq => ∃ m', m' < n ∧ W (i + 1) m' (ys ++ [y]) Hq) I10 rfl (.cons r10 .nil) ⟨acc, ys, y, rfl, rfl, q1, q2, q3⟩
          rw [hXp, hXw, hXA, hXx] at a3
          exact thn a3 fun _ s11 ⟨_, H11, I11, _, q11⟩ => again I11 q11
      · rw [hXe]; exact lookup_relabel_local hx
  refine codeAny_compStart_list (loop _) ?_
  exact T.self _ 0 _ _ _ (T.keep _ _ _ st3' fun b _ o q => keep4 b o q) (loop _)
end L2
namespace L2
open PySem PySem.Spec PyProof.Rows
end L2
namespace L2
open PySem PySem.Spec PyProof.Rows
section
variable {X : Cx}
theorem call_isinst : CallR X (.builtin "isinstance") (fun vs H Q => ∃ x t n b, vs = [x, .ty n] ∧ TyOf X.K H x t ∧ PySem.W.kitOne X.K t (.type n) = some b ∧ Q (.bl b) H) := by
  intro pins s σ H xs us Q I r h
  obtain ⟨x, t, n, b, rfl, ty, e, q⟩ := h
  obtain ⟨u, w', rfl, r1, r2⟩ := vals2 r
  cases r2
  exact isinst_ok I r1 ty e fun tk => ⟨.bl b, H, I.tok tk, rfl, q⟩
theorem call_len_setO : CallR X (.builtin "len") (fun vs H Q => ∃ p S n, vs = [.ref p] ∧ H p = some (.set S n) ∧ Q (.int n) H) := by
  intro pins s σ H xs us Q I r h
  obtain ⟨p, S, n, rfl, hH, q⟩ := h
  obtain ⟨u, rfl, rx⟩ := vals1 r
  cases rx
  obtain ⟨o, es, ep, tb, ho, hex, hd, hel, hmem, hsz, hfit, rfl⟩ := (show s.heap.SetOf (intKind X.prog X.w) p S n from I.hok p _ hH)
  have hb : (es.size : Int) < 2 ^ 63 := by unfold scanBound at hsz; omega
  exact PySem.call_len_set ho hex hd hfit hb ⟨.int es.size, H, I.tok _, ⟨_, rfl⟩, q⟩
theorem getItem_tuple_whole {prog : Program} {w : World} {A : Around} {E : Value → Shared → Prop} {s : Shared} {t sl : Addr} {items : Array Value} {vl vu : Value} {lo hi : Option Int} {Q : Value → Shared → Prop} (ht : IsTup s.heap t items) (hs : s.heap.IsSliceOf sl vl vu .none) (pl : IsPart vl lo) (pu : IsPart vu hi)
    (h1 : HT.sIx items.size 0 lo = 0) (h2 : HT.sIx items.size items.size hi = items.size) (h : Q (.ref t) s) : wpAny (model prog w) A (getItem (.ref t) (.ref sl)) Q E s := by
  obtain ⟨os, hos, hcs, hds⟩ := id hs
  have hTs : s.TypeIs (.ref sl) "slice" := ⟨os, hos, hcs⟩
  unfold getItem
  try with_reducible refine wpAny_holding ?_
  first | refine wpAny_bind (wpAny_pure ?_) | skip
  refine wpAny_bind (wpAny_sequenceKey ht.typeIs (by decide) ?_)
  refine wpAny_bind (wpAny_callSpecial?_slot (name := Str.ofString "__getitem__") ht.typeIs PyProof.Rows.slot_tuple_getitem (wpAny_call_entry PyProof.Rows.slot_tuple_getitem ht.typeIs entry_tuple_getitem ?_ (args_tuple_getitem _ _)))
  show wpAny _ _ (Builtin.Tuple.tupleItemsOf (.ref t) >>= _) _ _ s
  refine wpAny_bind (tupleItemsOf_ ht (wpAny_bind (wpAny_typeOf hTs ?_)))
  rw [if_pos (by decide)]
  refine wpAny_bind (HT.sliceApplied_gen hs pl pu ?_)
  rw [h1, h2]
  show wpAny _ _ (if (((0 : Nat) : Int) == 0 && (1 : Int) == 1 && (items.size - 0) == items.size) = true then _ else _) _ _ s
  rw [if_pos (by simp)]
  show wpAny _ _ (Builtin.Tuple.tupleIsExact (.ref t) >>= _) _ _ s
  unfold Builtin.Tuple.tupleIsExact
  refine wpAny_bind (wpAny_bind (wpAny_typeOf ht.typeIs (wpAny_pure ?_)))
  show wpAny _ _ (if (Value.type "tuple" == Value.type "tuple") = true then _ else _) _ _ s
  rw [if_pos (by decide)]
  refine wpAny_bind (wpAny_rule ?_)
  first
    | exact wpAny_pure ⟨_, rfl, wpAny_pure h⟩
    | exact wpAny_bind (wpAny_pure (wpAny_pure ⟨_, rfl, wpAny_pure h⟩))
noncomputable def rSlTW (K : PySem.W.Frag) : V → Option Int → Option Int → Hp → VK → Prop := fun x lo hi H Q => ∃ a xs, x = .ref a ∧ SqT K H a xs ∧ HT.sIx xs.length 0 lo = 0 ∧ HT.sIx xs.length xs.length hi = xs.length ∧ Q (.ref a) H
theorem sl_tupW : SlR X (rSlTW X.K) := by
  intro pins s σ H x v vl vu lo hi sl Q I rx hs pl pu h
  obtain ⟨a, xs, rfl, hx, h1, h2, q⟩ := h
  cases rx
  obtain ⟨its, r, ht, hz⟩ := I.tuple hx
  have hlen : its.toArray.size = xs.length := by rw [List.size_toArray]; exact r.length.symm
  refine ⟨"tuple", _, PyProof.Rows.slot_tuple_getitem.lookup, ht.typeIs, ?_⟩
  exact getItem_tuple_whole ht hs pl pu (by rw [hlen]; exact h1) (by rw [hlen]; exact h2) ⟨.ref a, H, I, rfl, q⟩
noncomputable def rCatT0 (K : PySem.W.Frag) : R2 := fun x y H Q => ∃ a b ys, x = .ref a ∧ y = .ref b ∧ SqT K H a [] ∧ SqT K H b ys ∧ Q (.ref b) H
theorem op_catT0 : OpR X (binaryOp .Add) (rCatT0 X.K) := by
  intro pins s σ H x y v u Q I rx ry h
  obtain ⟨a, b, ys, rfl, rfl, ha, hb, q⟩ := h
  cases rx
  cases ry
  obtain ⟨its, r1, p1, _⟩ := I.tuple ha
  obtain ⟨its2, r2, p2, _⟩ := I.tuple hb
  cases r1
  obtain ⟨⟨cls, dd, data, sl⟩, ho, hc, n, hd⟩ := id p1
  obtain ⟨⟨cls2, dd2, data2, sl2⟩, ho2, hc2, n2, hd2⟩ := id p2
  simp only at hc hd hc2 hd2
  subst hc hd hc2 hd2
  exact concat_meets ⟨_, ho, rfl⟩ ⟨_, ho2, rfl⟩ noFill_tuple_add seq_tuple_add PySem.F.slot_tuple_add PySem.F.entry_tuple_add (PySem.F.args_tuple_add_2 _ _)
    (tuple_addW0 a b _ _ n n2 dd dd2 sl sl2 (by simp)) ⟨ho, ho2, ⟨.ref b, H, I, rfl, q⟩⟩
end
end L2
namespace L2
open PySem PySem.Spec PyProof.Rows
open AutoSeq1 (wpAny_loadPart')
noncomputable def rngL (lo st : Int) (n : Nat) : List Int := (List.range n).map fun (i : Nat) => lo + (i : Int) * st
theorem rngL_length (lo st : Int) (n : Nat) : (rngL lo st n).length = n := by simp [rngL]
section
variable {X : Cx}
structure RngOk (lo hi st : Int) (n : Nat) : Prop where
  sm : Builtin.Range.small lo hi st = true
  sz : Builtin.Range.rangeSize lo hi st = n
  le : n ≤ 2 ^ 20
end
section
variable {prog : Program} {w : World} {A : Around} {E : Value → Shared → Prop} {s : Shared}
end
section
variable {X : Cx}
inductive RdD (K : PySem.W.Frag) (H : Hp) : V → PyData → Prop
  | non : RdD K H .non .none
  | bl (b : Bool) : RdD K H (.bl b) (.bool b)
  | int (i : Int) : RdD K H (.int i) (.int i)
  | str (x : Str) : RdD K H (.str x) (.str x)
  | tup {a : Addr} {xs : List V} {ds : List PyData} (h : SqT K H a xs) (hl : xs.length = ds.length) (hx : ∀ (i : Nat) x d, xs[i]? = some x → ds[i]? = some d → RdD K H x d) : RdD K H (.ref a) (.tuple ds)
  | lst {a : Addr} {xs : List V} {ds : List PyData} (h : SqL K H a xs) (hl : xs.length = ds.length) (hx : ∀ (i : Nat) x d, xs[i]? = some x → ds[i]? = some d → RdD K H x d) : RdD K H (.ref a) (.list ds)
theorem readsAll_of {h : Heap} : ∀ {us : List Value} {ds : List PyData}, us.length = ds.length → (∀ (i : Nat) u d, us[i]? = some u → ds[i]? = some d → ∃ as, Reads h u d as) → ∃ as, ReadsAll h us ds as
  | [], [], _, _ => ⟨_, .nil⟩
  | [], _ :: _, hl, _ => by simp at hl
  | _ :: _, [], hl, _ => by simp at hl
  | u :: us, d :: ds, hl, hx => by
    obtain ⟨as, h1⟩ := hx 0 u d rfl rfl
    obtain ⟨bs, h2⟩ := readsAll_of (us := us) (ds := ds) (by simpa using hl) fun i u d e1 e2 => hx (i + 1) u d (by simpa using e1) (by simpa using e2)
    exact ⟨_, .cons h1 h2⟩
theorem Vals.get' {xs : List V} {us : List Value} {i : Nat} {u : Value} (r : Vals xs us) (h : us[i]? = some u) : ∃ x, xs[i]? = some x ∧ RelV x u := by
  have hl := r.length
  have hi : i < xs.length := by rw [hl]; exact (List.getElem?_eq_some_iff.mp h).1
  obtain ⟨u', e1, e2⟩ := r.get (List.getElem?_eq_getElem hi)
  rw [h] at e1; cases e1
  exact ⟨_, List.getElem?_eq_getElem hi, e2⟩
theorem Inv.reads {pins : List (Addr × Obj)} {σ : St} {H : Hp} {s : Shared} (I : Inv X pins σ H s) {x : V} {d : PyData} (r : RdD X.K H x d) : ∀ u, RelV x u → ∃ as, Reads s.heap u d as := by
  induction r with
  | non => intro u ru; cases (show u = Value.none from ru); exact ⟨_, .none⟩
  | bl b => intro u ru; cases (show u = Value.bool b from ru); exact ⟨_, .bool b⟩
  | int i => intro u ru; obtain ⟨t, q⟩ := (show ∃ t, u = Value.int i t from ru); cases q; exact ⟨_, .int i t⟩
  | str y => intro u ru; obtain ⟨t, q⟩ := (show ∃ t, u = Value.str y t from ru); cases q; exact ⟨_, .str y t⟩
  | @tup a xs ds h hl hx ih =>
    intro u ru
    cases (show u = Value.ref a from ru)
    obtain ⟨its, rv, p, hz⟩ := I.tuple h
    obtain ⟨o, ho, hc, n, hd⟩ := p
    obtain ⟨as, ra⟩ := readsAll_of (h := s.heap) (us := its) (ds := ds) (by rw [← rv.length, hl]) fun i u d e1 e2 => by
      obtain ⟨y, e3, ry⟩ := rv.get' e1
      exact ih i y d e3 e2 u ry
    exact ⟨_, .tuple ho hc hd (by simpa using ra)⟩
  | @lst a xs ds h hl hx ih =>
    intro u ru
    cases (show u = Value.ref a from ru)
    obtain ⟨its, rv, p, hz⟩ := I.list h
    obtain ⟨o, ho, hc, n, hd⟩ := p.isList
    obtain ⟨as, ra⟩ := readsAll_of (h := s.heap) (us := its) (ds := ds) (by rw [← rv.length, hl]) fun i u d e1 e2 => by
      obtain ⟨y, e3, ry⟩ := rv.get' e1
      exact ih i y d e3 e2 u ry
    exact ⟨_, .list ho hc hd (by simpa using ra)⟩
theorem call_repr (hg : X.A.guards = some []) (hu : X.A.units + 64 < cLine) : CallR X (.builtin "repr") (fun vs H Q => ∃ p d, vs = [.ref p] ∧ RdD X.K H (.ref p) d ∧ d.showable = true ∧ d.hasDict = false ∧ d.depth ≤ 60 ∧ d.shown.length ≤ sizeLine ∧ Q (.str d.shown) H) := by
  intro pins s σ H xs us Q I r h
  obtain ⟨p, d, rfl, rd, hs, hd, hdp, hz, q⟩ := h
  obtain ⟨u, rfl, rx⟩ := vals1 r
  cases rx
  obtain ⟨as, ra⟩ := I.reads rd (.ref p) rfl
  exact repr_of_reads' ra hs (PyData.noDict_hsm hd) hg (by omega) (fun _ _ e => e) (fun h' u tk kp => ⟨.str d.shown, H, I.kept kp, ⟨_, rfl⟩, q⟩) hz
theorem call_reprI : CallR X (.builtin "repr") (fun vs H Q => ∃ i, vs = [.int i] ∧ i.natAbs.log2 < 1920 ∧ Q (.str (toString i)) H) := by
  intro pins s σ H xs us Q I r h
  obtain ⟨i, rfl, hi, q⟩ := h
  obtain ⟨u, rfl, t, rfl⟩ := vals1 r
  exact PySem.P.repr_of_int hi ⟨.str (toString i), H, I.tok _, ⟨_, rfl⟩, q⟩
end
end L2
namespace L2
open PySem PySem.Spec PyProof.Rows
end L2
namespace L2
open PySem PySem.Spec PyProof.Rows
theorem comp_gen {X : Cx} {use : Option (Value → Sem Unit)} {Q2 : Value → Shared → Prop} {pins : List (Addr × Obj)} {s : Shared} {σ : St} {H : Hp} {Q : VK} {elt iter : Expr} {x : Str} {px : Pos} {ifs : List Expr} {scope osc : Scope} {pos : Pos} {wi : TI} {tt : TT} {te : TE} (ix : List Nat) (N' : List Str)
    (hxe : X.xe = fun _ _ => False) (hc : X.calm = true) (ho : X.env.scope = osc) (hN : N' = x :: ix.map fun i => (X.N[i]?).getD x) (hnd : N'.Nodup)
    (hall : (∀ y ∈ scope.names, y.2 = .free → osc.names.lookup y.1 = some .cell) ∧ (∀ y ∈ scope.names, y.2 ≠ .cell) ∧ scope.kind = .function ∧ (∀ y ∈ scope.names, y.2 = .local → scope.names.lookup y.1 = some .local) ∧ scope.names.lookup x = some .local ∧ (∀ y ∈ N'.tail, scope.names.lookup y = some .free))
    (hi : PI X (.Name x px) iter wi)
    (ht : ∀ cl C s₀ H₀ fp, PTs (cxComp X scope cl C s₀ H₀ fp N') ifs tt)
    (he : ∀ cl C s₀ H₀ fp, PE (cxComp X scope cl C s₀ H₀ fp N') elt te)
    (hs : ∀ x, foldedSetIterable iter X.env x = pure x) (I : Inv X pins σ H s) (h : tComp wi ix tt te σ H Q)
    (hfin : ∀ (acc C : Addr) (H5 : Hp) (s5 : Shared) (o : Obj), Inv X (pins ++ [(C, o)]) σ H5 s5 → (∀ x c, X.env.cells.lookup x = some c → c ≠ C) → X.s₀.heap.objs.size ≤ C → (∀ p ∈ X.pn ++ pins, p.1 ≠ C) → (∃ m, ∀ h' : Heap, h'.get? C = some o → h'.Ns C m) → Q (.ref acc) H5 → compPost (model X.prog X.w) X.A X.xe use Q2 (.ref acc) C (.ok .next) s5) :
    wpAny (model X.prog X.w) X.A (comprehension (.ListComp elt [⟨.Name x px, iter, ifs, 0⟩] scope pos) scope X.env (firstIterPos [⟨.Name x px, iter, ifs, 0⟩] pos) (newList []) false (eval iter X.env) use) Q2 X.xe s := by
  obtain ⟨hfr, hcell, hkind, hnames, hx, hcap⟩ := hall
  subst ho
  have outc : ∀ y ∈ scope.names, y.2 = .free → X.env.kindOf y.1 = some .cell := fun y hy q => hfr y hy q
  obtain ⟨cl, hclos, hcl1, hcl2⟩ := closureFor_of (env := X.env) (scope := scope) fun y hy q => I.ok.has y.1 (.inl (outc y hy q))
  refine wpAny_comprehension_free (use := use) rfl hs hclos hkind hnames (thn (hi pins s σ H _ I h) fun v s1 h1 => thn h1 fun itv s2 h2 => ?_)
  obtain ⟨it, fp, tn, J, H2, e, I2, T, st2, f2, rest⟩ := h2
  subst e
  have hf2 : H2 s2.heap.objs.size = none := I2.hok.fresh (Nat.le_refl _)
  obtain ⟨W, ⟨m0, w0⟩, turn⟩ := rest s2.heap.objs.size hf2
  -- the list
  refine wpAny_newObj_type ?_
  have I3 : Inv X pins σ (upd H2 s2.heap.objs.size (.lst [])) { s2 with heap := s2.heap.push { cls := .type "list", dict := none, data := .seq ([] : List Value).toArray } } := I2.lnew (its := []) (t' := s2.toks) .nil (Nat.zero_le _)
  have keep3 : ∀ b o, s2.heap.get? b = some o → (s2.heap.push { cls := .type "list", dict := none, data := .seq ([] : List Value).toArray }).get? b = some o := fun b o q => Heap.get?_push_of_some _ q
  have fp3 : ∀ b ∈ fp, ∃ o, s2.heap.get? b = some o ∧ ∀ v, o.data ≠ .cell v := T.obj _ _ st2
  have st3 : tn 0 (s2.heap.push { cls := .type "list", dict := none, data := .seq ([] : List Value).toArray }) := T.keep _ _ _ st2 fun b _ o q => keep3 b o q
  have fpn : ∀ b ∈ fp, (upd H2 s2.heap.objs.size (HO.lst [])) b = none := fun b hb => by
    obtain ⟨o, q, _⟩ := fp3 b hb
    rw [upd_ne (Nat.ne_of_lt (Heap.lt_size q))]
    exact (f2 b hb).1
  revert I3 keep3 st3 fpn w0
  generalize hS3 : ({ s2 with heap := s2.heap.push { cls := .type "list", dict := none, data := .seq ([] : List Value).toArray } } : Shared) = s3
  generalize hH3 : upd H2 s2.heap.objs.size (HO.lst []) = H3
  intro w0 I3 keep3 st3 fpn
  have acc3 : H3 s2.heap.objs.size = some (.lst []) := by rw [← hH3]; exact upd_same
  generalize s2.heap.objs.size = acc at *
  have e3 : s2.heap.push { cls := .type "list", dict := none, data := .seq ([] : List Value).toArray } = s3.heap := by rw [← hS3]
  have keep3' : ∀ b o, s2.heap.get? b = some o → s3.heap.get? b = some o := fun b o q => by rw [← e3]; exact keep3 b o q
  have st3' : tn 0 s3.heap := by rw [← e3]; exact st3
  refine wpAny_newFunctionEnv hcell (by intro y hy; simp at hy) (fun h₁ hns₁ hsb₁ => ?_) hkind
  have hC : s3.heap.objs.size = s3.heap.objs.size := rfl
  have keep4 : ∀ b o, s3.heap.get? b = some o → h₁.get? b = some o := fun b o q => hsb₁.extBut b o (Nat.ne_of_lt (Heap.lt_size q)) (Heap.get?_push_of_some _ q)
  have fpC : ∀ b ∈ fp, b ≠ s3.heap.objs.size := fun b hb => by
    obtain ⟨o, q, _⟩ := fp3 b hb
    exact Nat.ne_of_lt (Heap.lt_size (keep3' b o q))
  -- the block's context
  generalize hX' : cxComp X scope cl s3.heap.objs.size s3 H3 fp N' = X'
  have hXp : X'.prog = X.prog := by rw [← hX']; rfl
  have hXw : X'.w = X.w := by rw [← hX']; rfl
  have hXK : X'.K = X.K := by rw [← hX']; rfl
  have hXA : X'.A = X.A := by rw [← hX']; rfl
  have hXe : X'.env = compEnvC scope cl s3.heap.objs.size X.env := by rw [← hX']; rfl
  have hXc : X'.calm = true := by rw [← hX']; exact hc
  have hXx : X'.xe = fun _ _ => False := by rw [← hX']; exact hxe
  have hXf : X'.fs = frs X.stack := by rw [← hX']; rfl
  have hXex : X'.ex = fp := by rw [← hX']; rfl
  have hXN : X'.N = N' := by rw [← hX']; rfl
  have hXs : X'.s₀ = s3 := by rw [← hX']; rfl
  have hXH : X'.H₀ = H3 := by rw [← hX']; rfl
  have hXpn : X'.pn = [] := by rw [← hX']; rfl
  have okX : X'.Ok := by
    rw [← hX']
    refine ⟨I3.ok.mod, hkind, I3.ok.glob, I3.ok.blt, Nat.le_refl _, fun a b c p q => I3.ok.inj a b c (hcl1 a c p) (hcl1 b c q), fun y hy => ?_, fun _ _ z => (by cases z), I3.ok.hd, I3.ok.frames, .inl rfl, fun b hb => ⟨fpC b hb, fun y c p => (f2 b hb).2.2.2.2.1 y c (hcl1 y c p)⟩,
      I3.bs, Nat.le_trans I3.ok.bsz I3.sz, fun b o p hb => ?_, fun b hb z => ?_, I3.stack, I3.stkFree⟩
    · have hy' : (relabel scope X.env).names.lookup y = some .cell ∨ (relabel scope X.env).names.lookup y = some .free := hy
      have free : scope.names.lookup y = some .free → ∃ c, cl.lookup y = some c := fun q => hcl2 y (lookup_mem q)
      rcases hy' with q | q
      · rcases relabel_kind q with z | ⟨z, _⟩
        · exact absurd rfl (hcell _ (lookup_mem z))
        · exact free z
      · rcases relabel_kind q with z | ⟨_, z⟩
        · exact free z
        · cases z
    · rcases (f2 b hb).2.2.2.1 with z | z
      · exact I3.ok.noex b o p z
      · exact absurd (Nat.lt_of_lt_of_le (Heap.lt_size p) (Nat.le_trans I3.ok.bsz z)) (Nat.lt_irrefl _)
    · rcases List.mem_cons.mp (I3.stkSub b z) with q | q
      · exact (f2 b hb).2.1 q
      · exact (f2 b hb).2.2.1 q
  have I4 : ∀ tk, Inv X' [] (capσ ix σ) H3 { s3 with heap := h₁, toks := tk } := fun tk => by
    have hloc := I3.loc
    refine ⟨okX, by rw [hXs], I3.bare, ?_, ⟨fun y => ([] : List (Str × Value)).reverse.lookup y, by rw [hXe]; exact hns₁, fun i y v e1 e2 e3 => ?_⟩, fun y c p => ?_, ?_, fun y c p => ?_, fun p hp => ?_, ?_, ?_⟩
    · rw [hXf, hXex, hXH, hXs]; exact Un.kept keep4
    · rw [hXN, hN] at e1
      cases i with
      | zero => simp [capσ] at e2
      | succ j =>
        have e1' : (ix.map fun i => (X.N[i]?).getD x)[j]? = some y := by simpa using e1
        have e2' : (ix.map fun i => (σ[i]?).join)[j]? = some (some v) := by simpa [capσ] using e2
        rw [List.getElem?_map] at e1' e2'
        cases hj : ix[j]? with
        | none => rw [hj] at e1'; cases e1'
        | some i0 =>
          rw [hj] at e1' e2'
          have e1'' : (X.N[i0]?).getD x = y := by simpa using e1'
          have e2'' : (σ[i0]?).join = some v := by simpa using e2'
          have hsv : σ[i0]? = some (some v) := by
            cases q : σ[i0]? with
            | none => rw [q] at e2''; cases e2''
            | some z => rw [q] at e2''; have : z = some v := by simpa using e2''
                        rw [this]
          have hlt : i0 < X.N.length := by
            have := (List.getElem?_eq_some_iff.mp hsv).1
            rw [I3.len] at this; exact this
          have hNy : X.N[i0]? = some y := by
            rw [List.getElem?_eq_getElem hlt] at e1'' ⊢
            simpa using e1''
          have hyt : y ∈ N'.tail := by
            rw [hN]
            exact List.mem_of_getElem? (by simpa using e1)
          have hyf := hcap y hyt
          have hyc := outc (y, .free) (lookup_mem hyf) rfl
          obtain ⟨m, hn, hl⟩ := hloc
          obtain ⟨u, r, l⟩ := hl i0 y v hNy hsv (.inr (.inl hyc))
          refine ⟨u, r, ?_⟩
          rcases l with ⟨k1, _⟩ | ⟨_, c, p, z⟩
          · have hyc' : X.env.kindOf y = some .cell := hyc
            rw [k1] at hyc'; cases hyc'
          · obtain ⟨c', p'⟩ := hcl2 y (lookup_mem hyf)
            have pc : c' = c := by
              have := hcl1 y c' p'
              rw [p] at this; cases this; rfl
            subst pc
            refine .inr ⟨.inl ?_, c', by rw [hXe]; exact p', ?_⟩
            · rw [hXe]; exact lookup_relabel_free I3.ok.kind hyf hyc
            · obtain ⟨o, q1, q2⟩ := z
              exact ⟨o, keep4 c' o q1, q2⟩
    · rw [hXe] at p
      obtain ⟨v, o, q1, q2⟩ := I3.cell y c (hcl1 y c p)
      exact ⟨v, o, keep4 c o q1, q2⟩
    · rw [hXe]; exact I3.hok.fresh (Nat.le_refl _)
    · rw [hXe] at p; exact I3.freeC y c (hcl1 y c p)
    · rw [hXpn] at hp; cases hp
    · rw [hXp, hXw]; exact I3.hok.kept keep4
    · rw [hXN, hN]; simp [capσ]
  -- the loop
  have stat : ∀ {H' : Hp}, (∀ b ∈ fp, H' b = none) → ∀ b ∈ fp, FpOk X' [] H' b := fun hn b hb => by
    refine ⟨hn b hb, by rw [hXe]; exact fpC b hb, ?_, .inl (by rw [hXex]; exact hb), fun y c p => ?_, fun p hp => by rw [hXpn] at hp; cases hp⟩
    · rw [hXf]; intro z
      rcases List.mem_cons.mp (I3.stkSub b z) with q | q
      · exact (f2 b hb).2.1 q
      · exact (f2 b hb).2.2.1 q
    · rw [hXe] at p; exact (f2 b hb).2.2.2.2.1 y c (hcl1 y c p)
  have fin : ∀ {H5 : Hp} {s5 : Shared} {σ5 : St}, Inv X' [] σ5 H5 s5 → Q (.ref acc) H5 → compPost (model X.prog X.w) X.A X.xe use Q2 (.ref acc) s3.heap.objs.size (.ok .next) s5 := fun {H5 s5 σ5} I5 q => by
    obtain ⟨m, hn, _⟩ := I5.loc
    rw [hXe] at hn
    have hn' : s5.heap.Ns s3.heap.objs.size m := hn
    obtain ⟨oC, esC, epC, hC1, hC2, hC3⟩ := hn'
    have u5 := I5.base
    rw [hXf, hXex, hXH, hXs] at u5
    have fr : H5 s3.heap.objs.size = none := by have := I5.free; rw [hXe] at this; exact this
    have hok5 := I5.hok
    rw [hXp, hXw] at hok5
    have hos : s5.os = s3.os := by have := I5.os; rw [hXs] at this; exact this
    have IX : Inv X pins σ H5 s5 := I3.call' (s' := s5) (ch := fp) hos u5 hok5 I5.bare (fun b hb => by
      obtain ⟨g0, g1, g2, g3, g4, g5⟩ := f2 b hb
      exact ⟨g3, g1, g4, g5⟩)
    have cC : ∀ x c, X.env.cells.lookup x = some c → c ≠ s3.heap.objs.size := fun x c z e => by
      obtain ⟨v, q⟩ := I3.cell x c z
      exact absurd q.lt (by rw [e]; exact Nat.lt_irrefl _)
    have pC : ∀ p ∈ X.pn ++ pins, p.1 ≠ s3.heap.objs.size := fun p hp e => by
      have := Heap.lt_size (I3.pin p hp).1
      rw [e] at this
      exact Nat.lt_irrefl _ this
    refine hfin acc s3.heap.objs.size H5 s5 oC (IX.pins_of fun p hp => ?_) cC I3.sz pC ⟨m, fun h' z => ⟨oC, esC, epC, z, hC2, hC3⟩⟩ q
    rcases List.mem_append.mp hp with z | z
    · exact IX.pin p (List.mem_append_right _ z)
    · have e := List.mem_singleton.mp z
      subst e
      refine ⟨hC1, fr, Nat.ne_of_gt I3.lt, I3.nofs (Nat.le_refl _), fun v e => ?_⟩
      have e' : oC.data = .cell v := e
      rw [hC2] at e'; cases e'
  have loop : ∀ tk, codeAny (model X.prog X.w) X.A (.compLoop (.ListComp elt [⟨.Name x px, iter, ifs, 0⟩] scope pos) 0 (.ref it) (.ref acc) (compEnvC scope cl s3.heap.objs.size X.env))
      (compPost (model X.prog X.w) X.A X.xe use Q2 (.ref acc) s3.heap.objs.size) { s3 with heap := h₁, toks := tk } := fun tk => by
    refine compLoop_go (fun n s' => ∃ i ys σ' H', Inv X' [] σ' H' s' ∧ (∃ v, σ' = (capσ ix σ).set 0 v) ∧ tn i s'.heap ∧ (∀ b ∈ fp, H' b = none) ∧ W i n ys H') (fun n s5 h5 => ?_) m0
      ⟨0, [], capσ ix σ, H3, I4 tk, ⟨none, rfl⟩, T.keep _ _ _ st3' fun b _ o q => keep4 b o q, fpn, w0⟩
    obtain ⟨i, ys, σ5, H5, I5, ⟨v5, hσ⟩, st5, fr5, w5⟩ := h5
    rcases turn i n ys H5 w5 with ⟨stop, q⟩ | ⟨go, step⟩
    · have d := T.done X' hXp hXw hXK hXc i [] s5 σ5 H5 (fun _ _ => False) I5 (stat fr5) st5 stop
      rw [hXA] at d
      refine thn d fun r s6 ⟨hr, I6⟩ => ?_
      subst hr
      exact fin I6 q
    · have d := T.item X' hXp hXw hXK hXc i [] s5 σ5 H5 (fun _ _ => False) I5 (stat fr5) st5 go
      rw [hXA] at d
      refine thn d fun r s6 ⟨u, hr, h6⟩ => ?_
      subst hr
      refine thn h6 fun _ s7 ⟨z, H7, I7, r7, y7, st7, fr7⟩ => ?_
      have I7' := I7.pinned (stat fr7) (T.obj _ _ st7)
      have again : ∀ {H9 : Hp} {s9 : Shared} {ys9 : List V} {v9 : Option V}, Inv X' ([] ++ pinsAt fp s7.heap) ((capσ ix σ).set 0 v9) H9 s9 → (∃ m', m' < n ∧ W (i + 1) m' ys9 H9) → ∃ m', m' < n ∧ ∃ i ys σ' H', Inv X' [] σ' H' s9 ∧ (∃ v, σ' = (capσ ix σ).set 0 v) ∧ tn i s9.heap ∧ (∀ b ∈ fp, H' b = none) ∧ W i m' ys H' := fun {H9 s9 ys9 v9} I9 ⟨m', hm, w9⟩ => by
        refine ⟨m', hm, i + 1, ys9, _, H9, I9.unpinned, ⟨v9, rfl⟩, T.keep _ _ _ st7 fun b hb o e => (I9.pin (b, o) (List.mem_append_right _ (List.mem_append_right _ (mem_pinsAt hb e)))).1, fun b hb => ?_, w9⟩
        obtain ⟨o, e, _⟩ := T.obj _ _ st7 b hb
        exact (I9.pin (b, o) (List.mem_append_right _ (List.mem_append_right _ (mem_pinsAt hb e)))).2.1
      have es : σ5.set 0 (some z) = (capσ ix σ).set 0 (some z) := by rw [hσ]; simp [List.set_set]
      have ht' := ht cl s3.heap.objs.size s3 H3 fp
      have he' := he cl s3.heap.objs.size s3 H3 fp
      rw [hX'] at ht' he'
      rw [← hXe]
      refine wpAny_assign_Name (store_ok (X := X') (i := 0) I7' (by rw [hXN]; exact hnd) (by rw [hXN, hN]; rfl) (.inl ?_) r7 (fun s8 I8 => ?_) (.inr ?_))
      · rw [hXe]; exact lookup_relabel_local hx
      · rw [es] at I8
        have a1 := ht' _ s8 _ H7 _ I8 (step z H7 y7)
        rw [hXp, hXw, hXA, hXx] at a1
        refine thn a1 fun b s9 ⟨H9, I9, q9⟩ => ?_
        cases b with
        | false => exact again I9 q9
        | true =>
          have a2 := he' _ s9 _ H9 _ I9 q9
          rw [hXp, hXw, hXA, hXx] at a2
          refine thn a2 fun yv s10 ⟨y, H10, I10, r10, q1, q2, q3⟩ => ?_
          have a3 := mt_append (X := X') _ s10 _ H10 (.ref acc) [y] (.ref acc) [yv] (fun _ Hq => ∃ m', m' < n ∧ W (i + 1) m' (ys ++ [y]) Hq) I10 rfl (.cons r10 .nil) ⟨acc, ys, y, rfl, rfl, q1, q2, q3⟩
          rw [hXp, hXw, hXA, hXx] at a3
          exact thn a3 fun _ s11 ⟨_, H11, I11, _, q11⟩ => again I11 q11
      · rw [hXe]; exact lookup_relabel_local hx
  refine codeAny_compStart_list (loop _) ?_
  exact T.self _ 0 _ _ _ (T.keep _ _ _ st3' fun b _ o q => keep4 b o q) (loop _)
theorem Inv.butC {X : Cx} {pins : List (Addr × Obj)} {σ : St} {H : Hp} {s : Shared} {C : Addr} {o : Obj} {h' : Heap} (I : Inv X (pins ++ [(C, o)]) σ H s) (cC : ∀ x c, X.env.cells.lookup x = some c → c ≠ C) (hC : X.s₀.heap.objs.size ≤ C) (pC : ∀ p ∈ X.pn ++ pins, p.1 ≠ C) (hs : Heap.SameBut C s.heap h') : Inv X pins σ H { s with heap := h' } := by
  have kb : ∀ b u, b ≠ C → s.heap.get? b = some u → h'.get? b = some u := fun b u hb z => hs.extBut b u hb z
  obtain ⟨q0, q1, q2, q3, q4⟩ := I.pin (C, o) (List.mem_append_right _ (List.mem_append_right _ (List.mem_singleton.mpr rfl)))
  have J : Inv X pins σ H s := I.pins_of fun p hp => I.pin p (List.mem_append_right _ (List.mem_append_left _ hp))
  refine J.call' (s' := { s with heap := h' }) (ch := [C]) rfl ⟨fun b u z n a c => kb b u (fun e => c (by rw [e]; exact List.mem_singleton.mpr rfl)) z, fun b u z n a c => ⟨u.slots, kb b _ (fun e => c (by rw [e]; exact List.mem_singleton.mpr rfl)) z⟩, fun b u z n c => n, fun b u z c => ⟨u, kb b u (fun e => c (by rw [e]; exact List.mem_singleton.mpr rfl)) z⟩, fun b xs z => z, fun b ob u z => z, fun b ps z => ⟨#[], by simpa using z⟩⟩ (J.hok.sameBut q1 kb) J.bare fun b hb => ?_
  have e := List.mem_singleton.mp hb
  subst e
  exact ⟨.inr hC, q2, fun x c z => cC x c z, pC⟩
theorem ps_compSet {X : Cx} {elt iter : Expr} {x y : Str} {px py : Pos} {ifs : List Expr} {scope osc : Scope} {pos spos : Pos} {wi : TI} {tt : TT} {te : TE} {i : Nat} (ix : List Nat) (N' : List Str)
    (hxe : X.xe = fun _ _ => False) (hc : X.calm = true) (ho : X.env.scope = osc) (hN : N' = x :: ix.map fun i => (X.N[i]?).getD x) (hnd : N'.Nodup)
    (hall : (∀ y ∈ scope.names, y.2 = .free → osc.names.lookup y.1 = some .cell) ∧ (∀ y ∈ scope.names, y.2 ≠ .cell) ∧ scope.kind = .function ∧ (∀ y ∈ scope.names, y.2 = .local → scope.names.lookup y.1 = some .local) ∧ scope.names.lookup x = some .local ∧ (∀ y ∈ N'.tail, scope.names.lookup y = some .free))
    (hi : PI X (.Name x px) iter wi)
    (ht : ∀ cl C s₀ H₀ fp, PTs (cxComp X scope cl C s₀ H₀ fp N') ifs tt)
    (he : ∀ cl C s₀ H₀ fp, PE (cxComp X scope cl C s₀ H₀ fp N') elt te)
    (hNN : X.N.Nodup) (hy : X.N[i]? = some y) (hl : X.env.scope.names.lookup y = some .local)
    (hsw : swapsWith (.ListComp elt [⟨.Name x px, iter, ifs, 0⟩] scope pos) (some (.Name y py)) spos.line X.env = pure true := by rfl)
    (hs : ∀ x, foldedSetIterable iter X.env x = pure x := by intro _; rfl) :
    PS X (.Assign [.Name y py] (.ListComp elt [⟨.Name x px, iter, ifs, 0⟩] scope pos) spos) (tAsg (tComp wi ix tt te) (gName i)) := by
  intro pins s σ H D I h
  rw [exec_Assign_Name_used _ _ _ _ hsw]
  refine wpAny_bind (wpAny_standAt ?_)
  show wpAny _ _ (evalThenUse (.ListComp elt [⟨.Name x px, iter, ifs, 0⟩] scope pos) X.env (assign (.Name y py) X.env) >>= fun _ => pure Flow.next) _ _ _
  refine wpAny_bind ?_
  show wpAny _ _ (comprehension (.ListComp elt [⟨.Name x px, iter, ifs, 0⟩] scope pos) scope X.env (firstIterPos [⟨.Name x px, iter, ifs, 0⟩] pos) (newList []) false (eval iter X.env) (some (assign (.Name y py) X.env)) >>= fun _ => pure ()) _ _ _
  refine wpAny_bind (comp_gen (use := some (assign (.Name y py) X.env)) ix N' hxe hc ho hN hnd hall hi ht he hs I h fun acc C H5 s5 o I5 cC hC pC hm q => ?_)
  obtain ⟨m, hm⟩ := hm
  refine wpAny_assign_Name (store_ok (i := i) (v := .ref acc) I5 hNN hy (.inl hl) rfl (fun s6 I6 => ?_) (.inr hl))
  refine ⟨m, hm _ (I6.pin (C, o) (List.mem_append_right _ (List.mem_append_right _ (List.mem_singleton.mpr rfl)))).1, fun h' hs' => ?_⟩
  exact wpAny_pure (wpAny_pure ⟨_, H5, I6.butC cC hC pC hs', q⟩)
end L2
namespace L2
open PySem PySem.Spec PyProof.Rows
section
variable {prog : Program} {w : World} {A : Around} {E : Value → Shared → Prop} {s : Shared}
theorem nextT_item {it t : Addr} {i : Nat} {its : Array Value} {x : Value} {Q : Value → Shared → Prop} (hi : s.heap.IsTupleIter it t i) (ht : s.heap.IsTuple t its) (hx : its[i]? = some x) (hQ : ∀ h', h'.IsTupleIter it t (i + 1) → Heap.SameBut it s.heap h' → Q x { s with heap := h' }) :
    wpAny (model prog w) A (Builtin.SmallTypes.nextOf (.ref it)) Q E s := by
  obtain ⟨oi, h1, h2, h3⟩ := id hi
  obtain ⟨ot, k1, _, nt, k2⟩ := ht
  unfold Builtin.SmallTypes.nextOf
  refine wpAny_bind (wpAny_callSpecial?_slot (name := Str.ofString "__next__") hi.typeIs F.slot_tuple_iterator_next (wpAny_call_entry F.slot_tuple_iterator_next hi.typeIs F.entry_tuple_iterator_next ?_ (F.args_tuple_iterator_next_1 _)))
  refine wpAny_bind (m := field (.ref it) 0) (wpAny_field h1 h3 (x := .ref t) rfl ?_)
  show wpAny _ _ (if (Value.ref t == Value.none) = true then _ else field (.ref it) 1 >>= _) _ _ s
  rw [if_neg (show ¬ ((Value.ref t == Value.none) = true) from Bool.false_ne_true)]
  refine wpAny_bind (wpAny_field h1 h3 (x := .int i 0) rfl (wpAny_bind (m := seqItems? (.ref t)) (wpAny_seqItems k1 k2 ?_)))
  simp only [Int.toNat_natCast, hx]
  exact wpAny_bind (wpAny_setField h1 h3 (by simp) (wpAny_pure ⟨x, rfl, wpAny_pure (hQ _ ⟨_, Heap.get?_update_self _ h1 (Obj.isFreed_of_fields (Obj.data_mapFields h3 _)), (Obj.cls_mapFields ..).trans h2, by rw [Obj.data_mapFields h3]; simp [rawInt]⟩ (Heap.SameBut.update ..))⟩))
theorem nextT_end {it t : Addr} {i : Nat} {its : Array Value} {Q : Value → Shared → Prop} (hh : A.handled = none) (hi : s.heap.IsTupleIter it t i) (ht : s.heap.IsTuple t its) (hx : its[i]? = none)
    (hE : ∀ h' e, Heap.ExtBut it s.heap h' → (∃ o, h'.get? e = some o ∧ o.cls = .type "StopIteration") → E (.ref e) { s with heap := h' }) : wpAny (model prog w) A (Builtin.SmallTypes.nextOf (.ref it)) Q E s := by
  obtain ⟨oi, h1, h2, h3⟩ := id hi
  obtain ⟨ot, k1, _, nt, k2⟩ := ht
  unfold Builtin.SmallTypes.nextOf
  refine wpAny_bind (wpAny_callSpecial?_slot (name := Str.ofString "__next__") hi.typeIs F.slot_tuple_iterator_next (wpAny_call_entry F.slot_tuple_iterator_next hi.typeIs F.entry_tuple_iterator_next ?_ (F.args_tuple_iterator_next_1 _)))
  refine wpAny_bind (m := field (.ref it) 0) (wpAny_field h1 h3 (x := .ref t) rfl ?_)
  show wpAny _ _ (if (Value.ref t == Value.none) = true then _ else field (.ref it) 1 >>= _) _ _ s
  rw [if_neg (show ¬ ((Value.ref t == Value.none) = true) from Bool.false_ne_true)]
  refine wpAny_bind (wpAny_field h1 h3 (x := .int i 0) rfl (wpAny_bind (m := seqItems? (.ref t)) (wpAny_seqItems k1 k2 ?_)))
  simp only [Int.toNat_natCast, hx]
  refine wpAny_bind (wpAny_rule (wpAny_bind (wpAny_setField h1 h3 (by simp) (wpAny_bind (m := newExc (.type "StopIteration") []) ?_))))
  simp only [newExc, newTuple]
  refine wpAny_bind (wpAny_newObj_type (wpAny_bind (m := firstArgMember _ _) (wpAny_of_eq (a := Value.none) (by first | rfl | (simp only [firstArgMember]; rfl)) (wpAny_newObj_type ?_ (by size_fits)))) (by size_fits))
  simp only [raiseNew]
  refine wpAny_bind (wpAny_handled ?_)
  first | rw [show A.in1.handled = none from hh] | rw [hh]
  exact wpAny_bind (wpAny_pure (wpAny_throw (hE _ _ (((Heap.SameBut.update ..).extBut.push _).push _) ⟨_, Heap.get?_push_size _ rfl, rfl⟩)))
end
theorem Draws.tup {prog : Program} {w : World} {A : Around} (hh : A.handled = none) (it t : Addr) (hne : t ≠ it) (its : Array Value) : Draws prog w A it [it, t] its.size (fun i v => its[i]? = some v) (fun i h => h.IsTupleIter it t i ∧ h.IsTuple t its) where
  live := fun _ _ z => let ⟨o, ho, _⟩ := z.1; ⟨o, ho⟩
  frame := fun _ _ _ z hk => ⟨z.1.at fun o e => hk it (by simp) o e, z.2.at fun o e => hk t (by simp) o e⟩
  item := fun i s Q E hi z hQ => nextT_item z.1 z.2 (x := its[i]) (by simp [hi]) fun h' a b => hQ _ h' s.toks (by simp [hi]) ⟨a, z.2.extBut b.extBut hne⟩ b
  done := fun s Q E z hE => nextT_end hh z.1 z.2 (by simp) hE
section
open AutoSeq1 (wpAny_loadPart')
theorem newT_meets (t : Addr) (its : Array Value) (n : Nat) (dct : Option Addr) (sl : Array (Option Value)) :
    Meets (Builtin.«enumerate.__new__» ⟨[.type "enumerate", .ref t], []⟩) (fun _ R s => s.heap.get? t = some { cls := .type "tuple", dict := dct, data := .seq its n, slots := sl } ∧
      R (.ok (.ret (.ref (s.heap.push { cls := .type "tuple_iterator", data := .fields #[.ref t, .int 0 0] }).objs.size))) { s with heap := (s.heap.push { cls := .type "tuple_iterator", data := .fields #[.ref t, .int 0 0] }).push { cls := .type "enumerate", data := .fields #[.none, .bool false, .ref s.heap.objs.size, rawInt 0, .none, .none] } }) :=
  .of_wp fun prog w A R s z => by
    obtain ⟨hp, gs, dr, tk, os⟩ := s; obtain ⟨ht, z⟩ := z
    have su := sub_enumerate
    have hT : Heap.IsTuple (Shared.heap ⟨hp, gs, dr, tk, os⟩) t its := ⟨_, ht, rfl, n, rfl⟩
    wp_walk using wpAny_loadPart' ht
    refine wpAny_stack_any fun st => wpAny_pure ?_
    split
    · rename_i c _ _ _ _ _
      cases (c == Value.type "enumerate") <;> (wp_walk using wpAny_loadPart' ht, wpAny_pyIter_tuple hT; exact ⟨_, rfl, z⟩)
    · (wp_walk using wpAny_loadPart' ht, wpAny_pyIter_tuple hT); exact ⟨_, rfl, z⟩
end
section
variable {prog : Program} {w : World} {A : Around} {E : Value → Shared → Prop} {s : Shared}
theorem enumT {t : Addr} {its : Array Value} {Q : Value → Shared → Prop} (hT : s.heap.IsTuple t its)
    (q : ∀ h', IsEnum h' (s.heap.objs.size + 1) s.heap.objs.size 0 .none → h'.IsTupleIter s.heap.objs.size t 0 → h'.objs.size = s.heap.objs.size + 2 → (∀ b o, s.heap.get? b = some o → h'.get? b = some o) → Q (.ref (s.heap.objs.size + 1)) { s with heap := h' }) :
    wpAny (model prog w) A (call (.type "enumerate") [.ref t]) Q E s := by
  obtain ⟨⟨c, dct, dt, sl⟩, ht, hc, n, hd⟩ := hT
  replace hc : c = .type "tuple" := hc
  replace hd : dt = .seq its n := hd
  subst hc hd
  refine callType_new F.called_enumerate (by decide) (F.typeCall_enumerate_1 _) (F.newCall_enumerate_1 _) (fun obj => F.args_object_init_2 obj _) F.entry_enumerate_new (newT_meets t its n dct sl) ⟨ht, ?_⟩
  have hz : (s.heap.push { cls := .type "tuple_iterator", data := .fields #[.ref t, .int 0 0] }).objs.size = s.heap.objs.size + 1 := Heap.size_push ..
  show _ ∧ _
  rw [hz]
  have he : IsEnum ((s.heap.push { cls := .type "tuple_iterator", data := .fields #[.ref t, .int 0 0] }).push { cls := .type "enumerate", data := .fields #[.none, .bool false, .ref s.heap.objs.size, rawInt 0, .none, .none] }) (s.heap.objs.size + 1) s.heap.objs.size 0 .none := by
    have y := Heap.get?_push_size (s.heap.push { cls := .type "tuple_iterator", data := .fields #[.ref t, .int 0 0] }) (o := { cls := .type "enumerate", data := .fields #[.none, .bool false, .ref s.heap.objs.size, rawInt 0, .none, .none] }) rfl
    rw [hz] at y; exact y
  exact ⟨⟨_, he, rfl⟩, q _ he ⟨_, Heap.get?_push_of_some _ (Heap.get?_push_size _ rfl), rfl, rfl⟩ (by rw [Heap.size_push, hz]) fun b o x => Heap.get?_push_of_some _ (Heap.get?_push_of_some _ x)⟩
end
theorem Inv.yielded {X : Cx} {pins : List (Addr × Obj)} {σ : St} {H : Hp} {s : Shared} {fp : List Addr} {T : Addr} {o : HO} {h' : Heap} {t' : Nat} (I : Inv X pins σ H s) (hf : ∀ b ∈ fp, FpOk X pins H b) (k : ∀ b u, b ∉ fp → s.heap.get? b = some u → h'.get? b = some u)
    (hT : s.heap.objs.size ≤ T) (new : ObjOk X.prog X.w (upd H T o) h' T o) : Inv X pins σ (upd H T o) { s with heap := h', toks := t' } := by
  have nT : ∀ b u, s.heap.get? b = some u → b ≠ T := fun b u e z => absurd (Heap.lt_size e) (by rw [z]; exact Nat.not_lt.mpr hT)
  have nH : ∀ b u, H b = some u → b ≠ T := fun b u e z => absurd (I.hok.lt e) (by rw [z]; exact Nat.not_lt.mpr hT)
  have nf : ∀ b u, H b = some u → b ∉ fp := fun b u e z => by rw [(hf b z).1] at e; cases e
  refine I.call' (s' := { s with heap := h', toks := t' }) (ch := fp) rfl ⟨fun b u e n _ c => k b u c e, fun b u e n _ c => ⟨u.slots, k b u c e⟩, fun b u e n c => by rw [upd_ne (nT b u e)]; exact n, fun b u e c => ⟨u, k b u c e⟩, fun b xs e => by rw [upd_ne (nH b _ e)]; exact e, fun b ob u e => by rw [upd_ne (nH b _ e)]; exact e, fun b ps e => ⟨#[], by rw [upd_ne (nH b _ e), e]; simp⟩⟩ (fun b u e => ?_) I.bare (fun b hb => ?_)
  · by_cases hb : b = T
    · subst hb
      rw [upd_same] at e
      cases e
      exact new
    · rw [upd_ne hb] at e
      refine (I.hok b u e).stay (fun c v hc q => k c v ?_ q) (fun c q => by rw [upd_ne (nH c _ q)]; exact q) fun c xs q => by rw [upd_ne (nH c _ q)]; exact q
      rcases hc with z | z
      · rw [z]; exact nf b u e
      · exact nf c _ z
  · obtain ⟨_, g1, _, g3, g4, g5⟩ := hf b hb
    exact ⟨g3, g1, g4, g5⟩
theorem Inv.turnedL {X : Cx} {pins : List (Addr × Obj)} {σ : St} {H : Hp} {s : Shared} {fp : List Addr} {h' : Heap} {t' : Nat} (I : Inv X pins σ H s) (hf : ∀ b ∈ fp, FpOk X pins H b) (k : ∀ b u, b ∉ fp → s.heap.get? b = some u → h'.get? b = some u) : Inv X pins σ H { s with heap := h', toks := t' } := by
  have nf : ∀ b u, H b = some u → b ∉ fp := fun b u e z => by rw [(hf b z).1] at e; cases e
  refine I.call' (s' := { s with heap := h', toks := t' }) (ch := fp) rfl ⟨fun b u e n _ c => k b u c e, fun b u e n _ c => ⟨u.slots, k b u c e⟩, fun b u e n c => n, fun b u e c => ⟨u, k b u c e⟩, fun b xs e => e, fun b ob u e => e, fun b ps e => ⟨#[], by rw [e]; simp⟩⟩ (fun b u e => ?_) I.bare (fun b hb => ?_)
  · refine (I.hok b u e).stay (fun c v hc q => k c v ?_ q) (fun c q => q) fun c xs q => q
    rcases hc with z | z
    · rw [z]; exact nf b u e
    · exact nf c _ z
  · obtain ⟨_, g1, _, g3, g4, g5⟩ := hf b hb
    exact ⟨g3, g1, g4, g5⟩
noncomputable def Iel (K : PySem.W.Frag) (a : Addr) : It :=
  ⟨fun i H => ∃ xs x, SqL K H a xs ∧ xs[i]? = some x, fun i H x H' => ∃ p v, x = .ref p ∧ H p = none ∧ (∀ xs, SqL K H a xs → xs[i]? = some v) ∧ H' = upd H p (.tup [.int i, v]), fun i H => ∃ xs, SqL K H a xs ∧ xs.length ≤ i⟩
noncomputable def Iet (K : PySem.W.Frag) (a : Addr) : It :=
  ⟨fun i H => ∃ xs x, SqT K H a xs ∧ xs[i]? = some x, fun i H x H' => ∃ p v, x = .ref p ∧ H p = none ∧ (∀ xs, SqT K H a xs → xs[i]? = some v) ∧ H' = upd H p (.tup [.int i, v]), fun i H => ∃ xs, SqT K H a xs ∧ xs.length ≤ i⟩
theorem enum_obj {h : Heap} {e it : Addr} {i : Int} {old : Value} (z : IsEnum h e it i old) : ∃ o, h.get? e = some o ∧ ∀ v, o.data ≠ .cell v := ⟨_, z, fun v q => nomatch q⟩
theorem enum_itemX {prog : Program} {w : World} {A : Around} {it : Addr} {fp : List Addr} {n : Nat} {P : Nat → Value → Prop} {St : Nat → Heap → Prop} (D : Draws prog w A.in1 it fp n P St) (e : Addr) (hei : e ≠ it) (hef : e ∉ fp) (i : Nat) (s : Shared) (Q : Option Value → Shared → Prop) (E : Value → Shared → Prop) (hi : i < n)
    (hst : (∃ old, IsEnum s.heap e it i old) ∧ St i s.heap)
    (hQ : ∀ T vals h' tk, (∃ t x, P i x ∧ vals = #[.int i t, x]) → s.heap.objs.size ≤ T → TupX h' T vals → ((∃ x, IsEnumOut h' e it ((i : Int) + 1) x T) ∧ St (i + 1) h' ∧ T ≠ e ∧ T ≠ it) → (∀ b o, b ∉ [e, it] → s.heap.get? b = some o → h'.get? b = some o) → Q (some (.ref T)) { s with heap := h', toks := tk }) :
    wpAny (model prog w) A (pyNext (.ref e)) Q E s := by
  obtain ⟨⟨old, he⟩, hs⟩ := hst
  refine wpAny_pyNext_enum_itemD D he hs hi hei hef fun x h1 tk hP ho hs1 hT _ hk => ?_
  refine hQ s.heap.objs.size #[.int i tk, x] h1 (tk + 1) ⟨tk, x, hP, rfl⟩ (Nat.le_refl _) ⟨_, hT, ⟨rfl, _, rfl⟩, rfl⟩ ⟨⟨_, ho⟩, hs1, Nat.ne_of_gt (Heap.lt_size he), ?_⟩ fun b o hb y => hk b o (fun z => hb (by simp [z])) (fun z => hb (by simp [z])) y
  obtain ⟨_, y⟩ := D.live _ _ hs
  exact Nat.ne_of_gt (Heap.lt_size y)
theorem turn_enumL {P : Program} {w : World} {K : PySem.W.Frag} {elts : List Expr} {k : Nat} {pos : Pos} {a it e : Addr} (hei : e ≠ it) : Turn P w K (.Tuple elts k pos) (Iel K a) [e, it] e (fun i h => (∃ old, IsEnum h e it i old) ∧ h.IsListIter it a i) where
  mem := by simp
  obj := fun i h z b hb => by
    obtain ⟨⟨old, z1⟩, z2⟩ := z
    rcases List.mem_cons.mp hb with rfl | hb
    · exact enum_obj z1
    · rw [List.mem_singleton.mp hb]
      obtain ⟨o, q, _, d⟩ := z2
      exact ⟨o, q, fun v y => by rw [d] at y; cases y⟩
  keep := fun i h h' z kk => ⟨let ⟨old, z1⟩ := z.1; ⟨old, kk e (by simp) _ z1⟩, z.2.at fun o q => kk it (by simp) o q⟩
  item := by
    intro X hP hw hK hc i pins s σ H E I hf st hg
    subst hP hw hK
    obtain ⟨xs, x, hq, hx⟩ := hg
    obtain ⟨its, rv, p, hz⟩ := I.list hq
    obtain ⟨u, hu, ru⟩ := rv.get hx
    have hl := rv.length
    have plt : a < s.heap.objs.size := by obtain ⟨o, q, _⟩ := p.isList; exact Heap.lt_size q
    have hai : a ≠ it ∧ a ≠ e := by
      obtain ⟨oa, qa, ca, _⟩ := p.isList
      obtain ⟨⟨old, z1⟩, oi, qi, ci, _⟩ := st
      exact ⟨(fun q => by rw [q, qi] at qa; cases qa; rw [ci] at ca; injection ca with y; exact absurd y (by decide)), (fun q => by rw [q, z1] at qa; cases qa; injection ca with y; exact absurd y (by decide))⟩
    have DD := (Draws.list (prog := X.prog) (w := X.w) (A := X.A.in1) (I.ok.hd hc) it a hai.1 its.toArray)
    have hef0 : e ∉ [it, a] := by simp; exact ⟨hei, fun q => hai.2 q.symm⟩
    have W := WalksT.enumerateD (prog := X.prog) (w := X.w) (A := X.A) DD e hei hef0 (by simp)
    refine enum_itemX DD e hei hef0 i s _ _ (by rw [List.size_toArray, ← hl]; exact (List.getElem?_eq_some_iff.mp hx).1) ⟨st.1, st.2, p.isList⟩ fun T vals h1 tk hv hT ht hm k1 => ?_
    obtain ⟨t, v, hv1, hv2⟩ := hv
    have ev : v = u := by
      have : its[i]? = some v := by simpa using hv1
      rw [hu] at this; exact (Option.some.inj this).symm
    subst ev
    refine ⟨.ref T, rfl, W.go elts k pos i T { s with heap := h1, toks := tk } _ _ hm fun h2 st2 k2 => ?_⟩
    have kk : ∀ b o, b ∉ [e, it] → s.heap.get? b = some o → h2.get? b = some o := fun b o hb q => k2 b o hb (k1 b o hb q)
    have hT2 : TupX h2 T vals := by
      obtain ⟨o, q, c⟩ := ht
      exact ⟨o, k2 T o (fun z => W.apart _ _ _ hm z) q, c⟩
    have hn : H T = none := I.hok.fresh hT
    have nTf : ∀ b ∈ [e, it], b ≠ T := fun b hb z => by
      have hlt : b < s.heap.objs.size := by
        rcases List.mem_cons.mp hb with rfl | hb
        · obtain ⟨old, z1⟩ := st.1; exact Heap.lt_size z1
        · rw [List.mem_singleton.mp hb]; obtain ⟨o, q, _⟩ := st.2; exact Heap.lt_size q
      rw [z] at hlt; exact absurd hlt (Nat.not_lt.mpr hT)
    refine ⟨.ref T, upd H T (.tup [.int i, x]), I.yielded (t' := tk) hf kk hT ⟨by show 2 ≤ sizeLine; decide, [.int i t, v], .cons ⟨t, rfl⟩ (.cons ru .nil), ?_⟩, rfl, ⟨T, x, rfl, hn, fun ys hy => by rw [I.list_inj hy hq]; exact hx, rfl⟩, ⟨st2.1, st2.2.1⟩, fun b hb => by rw [upd_ne (nTf b hb)]; exact (hf b hb).1⟩
    rw [hv2] at hT2; exact hT2
  done := by
    intro X hP hw hK hc i pins s σ H E I hf st hg
    subst hP hw hK
    obtain ⟨xs, hq, hx⟩ := hg
    obtain ⟨its, rv, p, hz⟩ := I.list hq
    obtain ⟨⟨old, z1⟩, z2⟩ := st
    have hl := rv.length
    exact wpAny_pyNext_enum_end (I.ok.hd hc) z1 z2 p.isList (Array.getElem?_eq_none (by rw [List.size_toArray]; omega)) fun h' eb => ⟨rfl, I.turnedL (t' := s.toks) hf fun b u hb q => eb b u (fun z => hb (by simp [z])) q⟩
  self := fun A i s Q E z q => by
    obtain ⟨⟨old, z1⟩, z2⟩ := z
    exact wpAny_pyIter_enum z1 q
theorem turn_enumT {P : Program} {w : World} {K : PySem.W.Frag} {elts : List Expr} {k : Nat} {pos : Pos} {a it e : Addr} (hei : e ≠ it) : Turn P w K (.Tuple elts k pos) (Iet K a) [e, it] e (fun i h => (∃ old, IsEnum h e it i old) ∧ h.IsTupleIter it a i) where
  mem := by simp
  obj := fun i h z b hb => by
    obtain ⟨⟨old, z1⟩, z2⟩ := z
    rcases List.mem_cons.mp hb with rfl | hb
    · exact enum_obj z1
    · rw [List.mem_singleton.mp hb]
      obtain ⟨o, q, _, d⟩ := z2
      exact ⟨o, q, fun v y => by rw [d] at y; cases y⟩
  keep := fun i h h' z kk => ⟨let ⟨old, z1⟩ := z.1; ⟨old, kk e (by simp) _ z1⟩, z.2.at fun o q => kk it (by simp) o q⟩
  item := by
    intro X hP hw hK hc i pins s σ H E I hf st hg
    subst hP hw hK
    obtain ⟨xs, x, hq, hx⟩ := hg
    obtain ⟨its, rv, p, hz⟩ := I.tuple hq
    obtain ⟨u, hu, ru⟩ := rv.get hx
    have hl := rv.length
    have plt : a < s.heap.objs.size := by obtain ⟨o, q, _⟩ := (show s.heap.IsTuple a its.toArray from p); exact Heap.lt_size q
    have hai : a ≠ it ∧ a ≠ e := by
      obtain ⟨oa, qa, ca, _⟩ := (show s.heap.IsTuple a its.toArray from p)
      obtain ⟨⟨old, z1⟩, oi, qi, ci, _⟩ := st
      exact ⟨(fun q => by rw [q, qi] at qa; cases qa; rw [ci] at ca; injection ca with y; exact absurd y (by decide)), (fun q => by rw [q, z1] at qa; cases qa; injection ca with y; exact absurd y (by decide))⟩
    have DD := (Draws.tup (prog := X.prog) (w := X.w) (A := X.A.in1) (I.ok.hd hc) it a hai.1 its.toArray)
    have hef0 : e ∉ [it, a] := by simp; exact ⟨hei, fun q => hai.2 q.symm⟩
    have W := WalksT.enumerateD (prog := X.prog) (w := X.w) (A := X.A) DD e hei hef0 (by simp)
    refine enum_itemX DD e hei hef0 i s _ _ (by rw [List.size_toArray, ← hl]; exact (List.getElem?_eq_some_iff.mp hx).1) ⟨st.1, st.2, (show s.heap.IsTuple a its.toArray from p)⟩ fun T vals h1 tk hv hT ht hm k1 => ?_
    obtain ⟨t, v, hv1, hv2⟩ := hv
    have ev : v = u := by
      have : its[i]? = some v := by simpa using hv1
      rw [hu] at this; exact (Option.some.inj this).symm
    subst ev
    refine ⟨.ref T, rfl, W.go elts k pos i T { s with heap := h1, toks := tk } _ _ hm fun h2 st2 k2 => ?_⟩
    have kk : ∀ b o, b ∉ [e, it] → s.heap.get? b = some o → h2.get? b = some o := fun b o hb q => k2 b o hb (k1 b o hb q)
    have hT2 : TupX h2 T vals := by
      obtain ⟨o, q, c⟩ := ht
      exact ⟨o, k2 T o (fun z => W.apart _ _ _ hm z) q, c⟩
    have hn : H T = none := I.hok.fresh hT
    have nTf : ∀ b ∈ [e, it], b ≠ T := fun b hb z => by
      have hlt : b < s.heap.objs.size := by
        rcases List.mem_cons.mp hb with rfl | hb
        · obtain ⟨old, z1⟩ := st.1; exact Heap.lt_size z1
        · rw [List.mem_singleton.mp hb]; obtain ⟨o, q, _⟩ := st.2; exact Heap.lt_size q
      rw [z] at hlt; exact absurd hlt (Nat.not_lt.mpr hT)
    refine ⟨.ref T, upd H T (.tup [.int i, x]), I.yielded (t' := tk) hf kk hT ⟨by show 2 ≤ sizeLine; decide, [.int i t, v], .cons ⟨t, rfl⟩ (.cons ru .nil), ?_⟩, rfl, ⟨T, x, rfl, hn, fun ys hy => by rw [I.tuple_inj hy hq]; exact hx, rfl⟩, ⟨st2.1, st2.2.1⟩, fun b hb => by rw [upd_ne (nTf b hb)]; exact (hf b hb).1⟩
    rw [hv2] at hT2; exact hT2
  done := by
    intro X hP hw hK hc i pins s σ H E I hf st hg
    subst hP hw hK
    obtain ⟨xs, hq, hx⟩ := hg
    obtain ⟨its, rv, p, hz⟩ := I.tuple hq
    obtain ⟨⟨old, z1⟩, z2⟩ := st
    have hl := rv.length
    have pt : s.heap.IsTuple a its.toArray := p
    have DD : Draws X.prog X.w X.A.in1 it [it, a] i (fun _ _ => True) (fun j h => j = i ∧ h.IsTupleIter it a j ∧ h.IsTuple a its.toArray) := {
      live := fun _ _ z => let ⟨o, ho, _⟩ := z.2.1; ⟨o, ho⟩
      frame := fun _ _ _ z hk => ⟨z.1, z.2.1.at fun o e => hk it (by simp) o e, z.2.2.at fun o e => hk a (by simp) o e⟩
      item := fun j s Q E hj z hQ => absurd z.1 (Nat.ne_of_lt hj)
      done := fun s Q E z hE => nextT_end (I.ok.hd hc) z.2.1 z.2.2 (Array.getElem?_eq_none (by rw [List.size_toArray]; omega)) hE }
    exact wpAny_pyNext_enum_endD DD z1 ⟨rfl, z2, pt⟩ fun h' eb => ⟨rfl, I.turnedL (t' := s.toks) hf fun b u hb q => eb b u (fun z => hb (by simp [z])) q⟩
  self := fun A i s Q E z q => by
    obtain ⟨⟨old, z1⟩, z2⟩ := z
    exact wpAny_pyIter_enum z1 q
noncomputable def iEnum (K : PySem.W.Frag) (tl : TE) : TI := fun σ H R => tl σ H fun x H1 => ∃ a, x = .ref a ∧ (((∃ xs, SqL K H1 a xs) ∧ R (Iel K a) H1) ∨ ((∃ xs, SqT K H1 a xs) ∧ R (Iet K a) H1))
theorem pi_enum {X : Cx} {elts : List Expr} {kt : Nat} {tp p pos : Pos} {l : Expr} {tl : TE} (hg : Gl X "enumerate") (hm : X.mg "enumerate" = none) (hl : PE X l tl) (hs : starEach [l] X.env = [(false, eval l X.env)] := by rfl) :
    PI X (.Tuple elts kt tp) (.Call (.Name "enumerate" p) [l] [] pos) (iEnum X.K tl) := by
  intro pins s σ H R I h
  have h' : tCons tl tNil σ H (fun vs H1 => match vs with
    | [x] => ∃ a, x = .ref a ∧ (((∃ xs, SqL X.K H1 a xs) ∧ R (Iel X.K a) H1) ∨ ((∃ xs, SqT X.K H1 a xs) ∧ R (Iet X.K a) H1))
    | _ => False) := h
  refine Call_ (ld_blt I hg hm PyProof.Rows.boot_enumerate (PyProof.Rows.callWith_type1 (thn (pa_cons hl pa_nil hs pos pins s σ H _ I h') fun us s1 ⟨vs, H1, I1, r1, q1⟩ => ?_) hs rfl))
  cases r1 with
  | nil => exact q1.elim
  | cons r rr =>
    cases rr with
    | cons _ _ => exact q1.elim
    | nil =>
      obtain ⟨a, rfl, q⟩ := q1
      cases r
      have fp : ∀ {h' : Heap}, ∀ b ∈ [s1.heap.objs.size + 1, s1.heap.objs.size], FpOk X pins H1 b := fun {h'} b hb => by
        have hb' : s1.heap.objs.size ≤ b := by
          rcases List.mem_cons.mp hb with z | hb
          · omega
          · have := List.mem_singleton.mp hb; omega
        exact I1.fpOk hb' (I1.hok.fresh hb')
      rcases q with ⟨⟨xs, hq⟩, q⟩ | ⟨⟨xs, hq⟩, q⟩
      · obtain ⟨its, rv, pl, hz⟩ := I1.list hq
        refine call_enumerate_list pl.isList fun h2 z1 z2 hsz kp => wpAny_pyIter_enum (s := { s1 with heap := h2 }) z1 ?_
        exact ⟨s1.heap.objs.size + 1, [s1.heap.objs.size + 1, s1.heap.objs.size], _, _, H1, rfl, I1.kept (t' := s1.toks) kp, turn_enumL (a := a) (Nat.succ_ne_self _), ⟨⟨_, z1⟩, z2⟩, fp (h' := h2), q⟩
      · obtain ⟨its, rv, pl, hz⟩ := I1.tuple hq
        refine enumT (show s1.heap.IsTuple a its.toArray from pl) fun h2 z1 z2 hsz kp => wpAny_pyIter_enum (s := { s1 with heap := h2 }) z1 ?_
        exact ⟨s1.heap.objs.size + 1, [s1.heap.objs.size + 1, s1.heap.objs.size], _, _, H1, rfl, I1.kept (t' := s1.toks) kp, turn_enumT (a := a) (Nat.succ_ne_self _), ⟨⟨_, z1⟩, z2⟩, fp (h' := h2), q⟩
end L2
namespace L2
open PySem PySem.Spec PyProof.Rows
noncomputable def capT (nt : Nat) (ix : List Nat) (σ : St) : St := List.replicate nt none ++ ix.map fun i => (σ[i]?).join
noncomputable def IsCap (nt : Nat) (ix : List Nat) (σ σ' : St) : Prop := ∃ ts : St, ts.length = nt ∧ σ' = ts ++ ix.map fun i => (σ[i]?).join
section
variable {X : Cx} {elt iter tg : Expr} {tn' : List Str} {tgr : TG} {ifs : List Expr} {scope osc : Scope} {pos : Pos} {wi : TI} {tt : TT} {te : TE}
end
end L2
namespace L2
open PySem PySem.Spec PyProof.Rows
section
variable {κ : Type} [DecidableEq κ]
end
section
variable {P : Program} {w : World} {H : Hp} {h : Heap} {a : Addr}
end
section
variable {X : Cx} {pins : List (Addr × Obj)} {σ : St} {H : Hp} {s : Shared} {a : Addr} {y v : V} {u r : Value} {o : Option V} {A : Around} {E : Value → Shared → Prop}
end
section
variable {X : Cx} {pins : List (Addr × Obj)} {σ : St} {H : Hp} {s : Shared} {a : Addr} {kvs : List (Key × V)} {k : Key} {u : Value} {A : Around} {E : Value → Shared → Prop}
end
section
variable {X : Cx} {o i e value : Expr} {pos pos' tpos : Pos} {td ty tv : TE}
end
section
variable {X : Cx} {pos : Pos}
end
section
variable {X : Cx} {pins : List (Addr × Obj)} {σ : St} {H : Hp} {s : Shared} {a : Addr} {y d : V} {u r : Value} {o : Option V} {A : Around} {E : Value → Shared → Prop}
end
section
variable {X : Cx} {o e f : Expr} {apos cpos : Pos} {td ty tx : TE}
end
section
variable {X : Cx} {pins : List (Addr × Obj)} {σ : St} {H : Hp} {s : Shared} {a : Addr} {kvs : List (Key × V)} {A : Around} {E : Value → Shared → Prop}
end
section
variable {X : Cx} {pins : List (Addr × Obj)} {σ : St} {H : Hp} {s : Shared} {a : Addr} {y : V} {u : Value} {A : Around} {E : Value → Shared → Prop}
end
end L2
namespace L2.FE
open PySem PySem.Spec PyProof.Rows
inductive D where
  | non | bl (b : Bool) | int (i : Int) | str (x : Str) | tup (ds : List D) | frl (ds : List D) | ref (n : Nat) | fn (x : Str) | edic | scr (ds : List D) | exc (c : Str) (fs : List (Str × Int))
inductive O where
  | lst (ds : List D) | set (ns : List Int) | dic (kvs : List (Key × D)) | dit (kvs : List (List Key × D))
noncomputable abbrev Hh := List O
noncomputable abbrev En := List (Option D)
structure Xc where
  cls : Str
  fs : List (Str × Int)
inductive R (β : Type) where
  | ok (b : β) (h : Hh)
  | err (x : Xc) (h : Hh)
  | bad
noncomputable def R.bind {β γ : Type} (r : R β) (f : β → Hh → R γ) : R γ := match r with
  | .ok b h => f b h
  | .err x h => .err x h
  | .bad => .bad
inductive Fl where
  | nx (e : En) | bk (e : En) | ct (e : En) | rt (d : D)
noncomputable abbrev ME := En → Hh → R D
noncomputable abbrev MT := En → Hh → R Bool
noncomputable abbrev MA := En → Hh → R (List D)
noncomputable abbrev MS := En → Hh → R Fl
noncomputable def Fro (K : PySem.W.Frag) (H : Hp) (p : Addr) (vs : List V) : Prop :=
  (∃ o, H p = some (.frz o (.lst vs))) ∨ ∃ (o : Obj) (its : Array Value) (n : Nat), K.lookup p = some o ∧ o.cls = .type "list" ∧ o.dict = none ∧ o.data = .seq its n ∧ its.size ≤ sizeLine ∧ Vals vs its.toList
theorem Fro.sq {K : PySem.W.Frag} {H : Hp} {p : Addr} {vs : List V} (h : Fro K H p vs) : SqL K H p vs := by
  rcases h with ⟨o, h⟩ | h
  · exact .inl (.inr ⟨o, h⟩)
  · exact .inr h
noncomputable def Fr1 (H : Hp) (p : Addr) (vs : List V) : Prop := ∃ o, H p = some (.frz o (.lst vs))
theorem Fr1.fro {K : PySem.W.Frag} {H : Hp} {p : Addr} {vs : List V} (h : Fr1 H p vs) : Fro K H p vs := .inl h
theorem Fr1.sq {K : PySem.W.Frag} {H : Hp} {p : Addr} {vs : List V} (h : Fr1 H p vs) : SqL K H p vs := let ⟨o, h⟩ := h; .inl (.inr ⟨o, h⟩)
theorem Fr1.rd {H : Hp} {p : Addr} {vs : List V} (h : Fr1 H p vs) : Rd H p (.lst vs) := .inr h
noncomputable def AtO (p : Addr) (o : Obj) : HO := .frz o (.ext fun h => h.get? p = some o)
noncomputable def XFs (H : Hp) (dc : Option Addr) (fs : List (Str × Int)) : Prop := (dc = none ∧ fs = []) ∨ ∃ dx od, dc = some dx ∧ H dx = some (.frz od (.xd (fs.map fun x => (x.1, V.int x.2))))
mutual
inductive RelD (K : PySem.W.Frag) (g : Str → Option Addr) (α : List Addr) (H : Hp) : D → V → Prop where
  | non : RelD K g α H .non .non
  | bl (b) : RelD K g α H (.bl b) (.bl b)
  | int (i) : RelD K g α H (.int i) (.int i)
  | str (x) : RelD K g α H (.str x) (.str x)
  | ref {n p} : α[n]? = some p → RelD K g α H (.ref n) (.ref p)
  | tup {ds p vs} : H p = some (.tup vs) → RelDs K g α H ds vs → RelD K g α H (.tup ds) (.ref p)
  | frl {ds p vs} : Fr1 H p vs → RelDs K g α H ds vs → RelD K g α H (.frl ds) (.ref p)
  | scr {ds p vs} : Fro K H p vs → RelDs K g α H ds vs → RelD K g α H (.scr ds) (.ref p)
  | fn {x f} : g x = some f → RelD K g α H (.fn x) (.ref f)
  | edic {p o} : H p = some (.frz o (.dK [])) → RelD K g α H .edic (.ref p)
  | exc {c C p o fs} : g c = some C → H p = some (AtO p o) → o.cls = .ref C → (∃ vs, o.data = .fields vs) → XFs H o.dict fs → RelD K g α H (.exc c fs) (.ref p)
inductive RelDs (K : PySem.W.Frag) (g : Str → Option Addr) (α : List Addr) (H : Hp) : List D → List V → Prop where
  | nil : RelDs K g α H [] []
  | cons {d v ds vs} : RelD K g α H d v → RelDs K g α H ds vs → RelDs K g α H (d :: ds) (v :: vs)
end
structure Ex0 (K : PySem.W.Frag) (α : List Addr) (H : Hp) (α' : List Addr) (H' : Hp) : Prop where
  pre : α <+: α'
  tup : ∀ (p : Addr) (xs : List V), H p = some (.tup xs) → H' p = some (.tup xs)
  frz : ∀ (p : Addr) (o : Obj) (u : HO), H p = some (.frz o u) → H' p = some (.frz o u)
theorem Ex0.fro {K : PySem.W.Frag} {α α' : List Addr} {H H' : Hp} (e : Ex0 K α H α' H') (p : Addr) (xs : List V) (h : Fro K H p xs) : Fro K H' p xs := by
  rcases h with ⟨o, h⟩ | h
  · exact .inl ⟨o, e.frz _ _ _ h⟩
  · exact .inr h
theorem Ex0.fr1 {K : PySem.W.Frag} {α α' : List Addr} {H H' : Hp} (e : Ex0 K α H α' H') (p : Addr) (xs : List V) (h : Fr1 H p xs) : Fr1 H' p xs := let ⟨o, h⟩ := h; ⟨o, e.frz _ _ _ h⟩
structure Ext (K : PySem.W.Frag) (α : List Addr) (H : Hp) (α' : List Addr) (H' : Hp) : Prop extends Ex0 K α H α' H' where
  keep : ∀ p o, H p = some o → p ∉ α → H' p = some o
  new : ∀ p, p ∈ α' → p ∉ α → H p = none
section
variable {K : PySem.W.Frag} {g : Str → Option Addr} {α α' α'' : List Addr} {H H' H'' : Hp}
theorem Ex0.refl : Ex0 K α H α H := ⟨List.prefix_refl _, fun _ _ h => h, fun _ _ _ h => h⟩
theorem Ex0.trans (a : Ex0 K α H α' H') (b : Ex0 K α' H' α'' H'') : Ex0 K α H α'' H'' := ⟨a.pre.trans b.pre, fun p xs h => b.tup p xs (a.tup p xs h), fun p o u h => b.frz p o u (a.frz p o u h)⟩
theorem Ext.refl : Ext K α H α H := ⟨.refl, fun _ _ h _ => h, fun _ h n => absurd h n⟩
theorem Ext.trans (a : Ext K α H α' H') (b : Ext K α' H' α'' H'') : Ext K α H α'' H'' := ⟨a.toEx0.trans b.toEx0, fun p o h n => b.keep p o (a.keep p o h n) (fun z => by rw [a.new p z n] at h; cases h), fun p z n => by
    by_cases q : p ∈ α'
    · exact a.new p q n
    · have := b.new p z q
      cases e : H p with
      | none => rfl
      | some o => rw [a.keep p o e n] at this; cases this⟩
theorem Ex0.get (e : Ex0 K α H α' H') {n : Nat} {p : Addr} (h : α[n]? = some p) : α'[n]? = some p := by
  obtain ⟨t, rfl⟩ := e.pre
  have hl : n < α.length := by
    by_cases hl : n < α.length
    · exact hl
    · rw [List.getElem?_eq_none (by omega)] at h; cases h
  rw [List.getElem?_append_left hl]; exact h
mutual
theorem RelD.ex0 (e : Ex0 K α H α' H') : ∀ {d : D} {v : V}, RelD K g α H d v → RelD K g α' H' d v
  | _, _, .non => .non
  | _, _, .bl b => .bl b
  | _, _, .int i => .int i
  | _, _, .str x => .str x
  | _, _, .ref h => .ref (e.get h)
  | _, _, .tup h r => .tup (e.tup _ _ h) (RelDs.ex0 e r)
  | _, _, .frl h r => .frl (e.fr1 _ _ h) (RelDs.ex0 e r)
  | _, _, .scr h r => .scr (e.fro _ _ h) (RelDs.ex0 e r)
  | _, _, .fn h => .fn h
  | _, _, .edic h => .edic (e.frz _ _ _ h)
  | _, _, .exc hg h hc hd hf => .exc hg (e.frz _ _ _ h) hc hd (hf.elim .inl fun ⟨dx, od, a, b⟩ => .inr ⟨dx, od, a, e.frz _ _ _ b⟩)
theorem RelDs.ex0 (e : Ex0 K α H α' H') : ∀ {ds : List D} {vs : List V}, RelDs K g α H ds vs → RelDs K g α' H' ds vs
  | _, _, .nil => .nil
  | _, _, .cons r t => .cons (RelD.ex0 e r) (RelDs.ex0 e t)
end
theorem RelD.ext (e : Ext K α H α' H') {d : D} {v : V} (r : RelD K g α H d v) : RelD K g α' H' d v := r.ex0 e.toEx0
theorem RelDs.ext (e : Ext K α H α' H') {d : List D} {v : List V} (r : RelDs K g α H d v) : RelDs K g α' H' d v := r.ex0 e.toEx0
theorem RelDs.length : ∀ {ds : List D} {vs : List V}, RelDs K g α H ds vs → ds.length = vs.length
  | _, _, .nil => rfl
  | _, _, .cons _ t => by simp [RelDs.length t]
theorem RelDs.append : ∀ {ds es : List D} {vs us : List V}, RelDs K g α H ds vs → RelDs K g α H es us → RelDs K g α H (ds ++ es) (vs ++ us)
  | _, _, _, _, .nil, s => s
  | _, _, _, _, .cons r t, s => .cons r (RelDs.append t s)
theorem RelDs.get : ∀ {ds : List D} {vs : List V} {i : Nat} {d : D}, RelDs K g α H ds vs → ds[i]? = some d → ∃ v, vs[i]? = some v ∧ RelD K g α H d v
  | _, _, _, _, .nil, e => by simp at e
  | _, _, 0, _, .cons r _, e => by simp at e; subst e; exact ⟨_, rfl, r⟩
  | _, _, i + 1, d, .cons _ t, e => by
    obtain ⟨u, h1, h2⟩ := RelDs.get (i := i) (d := d) t (by simpa using e)
    exact ⟨u, by simpa using h1, h2⟩
theorem RelDs.set {d : D} {v : V} (r : RelD K g α H d v) : ∀ {ds : List D} {vs : List V} (i : Nat), RelDs K g α H ds vs → RelDs K g α H (ds.set i d) (vs.set i v)
  | _, _, _, .nil => .nil
  | _, _, 0, .cons _ t => .cons r t
  | _, _, i + 1, .cons q t => .cons q (RelDs.set r i t)
theorem RelDs.take : ∀ {ds : List D} {vs : List V} (n : Nat), RelDs K g α H ds vs → RelDs K g α H (ds.take n) (vs.take n)
  | _, _, 0, _ => .nil
  | _, _, _ + 1, .nil => .nil
  | _, _, n + 1, .cons r t => .cons r (RelDs.take n t)
theorem RelDs.drop : ∀ {ds : List D} {vs : List V} (n : Nat), RelDs K g α H ds vs → RelDs K g α H (ds.drop n) (vs.drop n)
  | _, _, 0, r => r
  | _, _, _ + 1, .nil => .nil
  | _, _, n + 1, .cons _ t => RelDs.drop n t
theorem RelDs.ints (ns : List Int) : RelDs K g α H (ns.map D.int) (ns.map V.int) := by
  induction ns with
  | nil => exact .nil
  | cons n r ih => exact .cons (.int n) ih
theorem RelDs.intsV : ∀ {ns : List Int} {vs : List V}, RelDs K g α H (ns.map D.int) vs → vs = ns.map V.int
  | [], _, .nil => rfl
  | n :: r, _, .cons (.int _) t => by rw [RelDs.intsV t]; rfl
theorem RelDs.flat {ds : List D} {vs : List V} (r : RelDs K g α H ds vs) : ∀ k, RelDs K g α H (List.replicate k ds).flatten (List.replicate k vs).flatten
  | 0 => .nil
  | k + 1 => by rw [List.replicate_succ, List.replicate_succ, List.flatten_cons, List.flatten_cons]; exact r.append (RelDs.flat r k)
end
noncomputable def OAt (K : PySem.W.Frag) (g : Str → Option Addr) (α : List Addr) (H : Hp) (p : Addr) : O → Prop
  | .lst ds => ∃ vs, H p = some (.lst vs) ∧ RelDs K g α H ds vs
  | .set ns => H p = some (.set (fun k => ns.any (· == k)) ns.length)
  | .dic kvs => ∃ kws, H p = some (.dK kws) ∧ Paired (fun (a : Key × D) (b : Key × V) => a.1 = b.1 ∧ RelD K g α H a.2 b.2) kvs kws
  | .dit kvs => ∃ kws, H p = some (.dT kws) ∧ Paired (fun (a : List Key × D) (b : List Key × V) => a.1 = b.1 ∧ RelD K g α H a.2 b.2) kvs kws
structure HRel (K : PySem.W.Frag) (g : Str → Option Addr) (α : List Addr) (H : Hp) (h : Hh) : Prop where
  len : α.length = h.length
  inj : ∀ (n m : Nat) (p : Addr), α[n]? = some p → α[m]? = some p → n = m
  here : ∀ (n : Nat) (p : Addr) (o : O), α[n]? = some p → h[n]? = some o → OAt K g α H p o
section
variable {K : PySem.W.Frag} {g : Str → Option Addr} {α α' : List Addr} {H H' : Hp} {h : Hh}
theorem Paired.mapD {kvs : List (Key × D)} {kws : List (Key × V)} (e : Ex0 K α H α' H') (r : Paired (fun (a : Key × D) (b : Key × V) => a.1 = b.1 ∧ RelD K g α H a.2 b.2) kvs kws) :
    Paired (fun (a : Key × D) (b : Key × V) => a.1 = b.1 ∧ RelD K g α' H' a.2 b.2) kvs kws := L2.Paired.mapP r fun _ _ q => ⟨q.1, q.2.ex0 e⟩
theorem Paired.mapE {kvs : List (List Key × D)} {kws : List (List Key × V)} (e : Ex0 K α H α' H') (r : Paired (fun (a : List Key × D) (b : List Key × V) => a.1 = b.1 ∧ RelD K g α H a.2 b.2) kvs kws) :
    Paired (fun (a : List Key × D) (b : List Key × V) => a.1 = b.1 ∧ RelD K g α' H' a.2 b.2) kvs kws := L2.Paired.mapP r fun _ _ q => ⟨q.1, q.2.ex0 e⟩
theorem OAt.isS {p : Addr} {o : O} (h : OAt K g α H p o) : ∃ u, H p = some u ∧ (∀ ys, u ≠ .tup ys) ∧ ∀ w ys, u ≠ .frz w ys := by
  cases o with
  | lst ds => obtain ⟨vs, e, _⟩ := h; exact ⟨_, e, fun _ z => (nomatch z), fun _ _ z => nomatch z⟩
  | set n => exact ⟨_, h, fun _ z => (nomatch z), fun _ _ z => nomatch z⟩
  | dic kvs => obtain ⟨vs, e, _⟩ := h; exact ⟨_, e, fun _ z => (nomatch z), fun _ _ z => nomatch z⟩
  | dit kvs => obtain ⟨vs, e, _⟩ := h; exact ⟨_, e, fun _ z => (nomatch z), fun _ _ z => nomatch z⟩
theorem HRel.mem (r : HRel K g α H h) {p : Addr} (hp : p ∈ α) : ∃ u, H p = some u ∧ (∀ ys, u ≠ .tup ys) ∧ ∀ w ys, u ≠ .frz w ys := by
  obtain ⟨n, hn, e⟩ := List.getElem_of_mem hp
  have hn' : n < h.length := by rw [← r.len]; exact hn
  exact (r.here n p _ (by rw [List.getElem?_eq_getElem hn, e]) (List.getElem?_eq_getElem hn')).isS
theorem OAt.ex0 {p : Addr} {o : O} (e : Ex0 K α H α' H') (h : OAt K g α H p o) (k : ∀ u, H p = some u → H' p = some u) : OAt K g α' H' p o := by
  cases o with
  | lst ds => obtain ⟨vs, a, r⟩ := h; exact ⟨vs, k _ a, r.ex0 e⟩
  | set n => exact k _ h
  | dic kvs => obtain ⟨kws, a, r⟩ := h; exact ⟨kws, k _ a, Paired.mapD e r⟩
  | dit kvs => obtain ⟨kws, a, r⟩ := h; exact ⟨kws, k _ a, Paired.mapE e r⟩
noncomputable def Soft (H : Hp) (p : Addr) : Prop := H p = none ∨ ∃ u, H p = some u ∧ (∀ ys, u ≠ .tup ys) ∧ ∀ w ys, u ≠ .frz w ys
theorem Ex0.upd {p : Addr} {o : HO} (n : Soft H p) : Ex0 K α H α (upd H p o) := by
  have ne : ∀ q u, H q = some u → ((∃ ys, u = .tup ys) ∨ ∃ w ys, u = .frz w ys) → q ≠ p := by
    rintro q u e z rfl
    rcases n with n | ⟨u', e', n1, n2⟩
    · rw [e] at n; cases n
    · rw [e] at e'; cases e'
      rcases z with ⟨ys, z⟩ | ⟨w, ys, z⟩
      · exact n1 _ z
      · exact n2 _ _ z
  refine ⟨List.prefix_refl _, fun q xs h => ?_, fun q o u h => ?_⟩
  · rw [upd_ne (ne q _ h (.inl ⟨_, rfl⟩))]; exact h
  · rw [upd_ne (ne q _ h (.inr ⟨_, _, rfl⟩))]; exact h
theorem Ex0.more (e : Ex0 K α H α H') (l : List Addr) : Ex0 K α H (α ++ l) H' := ⟨List.prefix_append _ _, e.tup, e.frz⟩
theorem Ext.fresh {p : Addr} {o : HO} (n : H p = none) : Ext K α H α (upd H p o) := ⟨Ex0.upd (.inl n), fun q u h _ => by rw [upd_ne (ne_of_none h n)]; exact h, fun _ z m => absurd z m⟩
theorem Ext.push {p : Addr} {o : HO} (n : H p = none) : Ext K α H (α ++ [p]) (upd H p o) := ⟨(Ex0.upd (.inl n)).more _, fun q u h _ => by rw [upd_ne (ne_of_none h n)]; exact h, fun q z m => by
  rcases List.mem_append.mp z with z | z
  · exact absurd z m
  · rw [List.mem_singleton.mp z]; exact n⟩
theorem HRel.off {p : Addr} {o : HO} (r : HRel K g α H h) (n : Soft H p) (m : p ∉ α) : HRel K g α (upd H p o) h := by
  refine ⟨r.len, r.inj, fun k q u a b => (r.here k q u a b).ex0 (Ex0.upd n) fun w e => ?_⟩
  rw [upd_ne]; exact e
  rintro rfl; exact m (List.mem_of_getElem? a)
theorem HRel.free (r : HRel K g α H h) {p : Addr} (n : H p = none) : p ∉ α := fun z => by
  obtain ⟨u, e, _⟩ := r.mem z
  rw [n] at e; cases e
theorem HRel.grow {p : Addr} {o : HO} (r : HRel K g α H h) (n : H p = none) : HRel K g α (upd H p o) h := r.off (.inl n) (r.free n)
theorem HRel.adopt {p : Addr} {u : O} (r : HRel K g α H h) (n : p ∉ α) (a : OAt K g (α ++ [p]) H p u) : HRel K g (α ++ [p]) H (h ++ [u]) := by
  have old : ∀ {m : Nat} {q : Addr}, (α ++ [p])[m]? = some q → (α[m]? = some q) ∨ (m = α.length ∧ q = p) := by
    intro m q h1
    by_cases hm : m < α.length
    · rw [List.getElem?_append_left hm] at h1
      exact .inl h1
    · have hl : m < (α ++ [p]).length := by
        by_cases hl : m < (α ++ [p]).length
        · exact hl
        · rw [List.getElem?_eq_none (by omega)] at h1; cases h1
      have e : m = α.length := by simp at hl; omega
      subst e
      rw [List.getElem?_append_right (Nat.le_refl _)] at h1
      simp at h1
      exact .inr ⟨rfl, h1.symm⟩
  refine ⟨by simp [r.len], fun m k q h1 h2 => ?_, fun m q w h1 h2 => ?_⟩
  · rcases old h1 with a1 | ⟨e1, e2⟩
    · rcases old h2 with a2 | ⟨e3, e4⟩
      · exact r.inj m k q a1 a2
      · rw [e4] at a1; exact absurd (List.mem_of_getElem? a1) n
    · rcases old h2 with a2 | ⟨e3, e4⟩
      · rw [e2] at a2; exact absurd (List.mem_of_getElem? a2) n
      · rw [e1, e3]
  · rcases old h1 with a1 | ⟨e1, e2⟩
    · have hm : m < α.length := by
        by_cases hl : m < α.length
        · exact hl
        · rw [List.getElem?_eq_none (by omega)] at a1; cases a1
      rw [List.getElem?_append_left (by rw [← r.len]; exact hm)] at h2
      exact (r.here m q w a1 h2).ex0 (Ex0.refl.more _) fun _ z => z
    · subst e1 e2
      rw [r.len, List.getElem?_append_right (Nat.le_refl _)] at h2
      simp at h2
      subst h2
      exact a
theorem HRel.push {p : Addr} {o : HO} {u : O} (r : HRel K g α H h) (n : H p = none) (a : OAt K g (α ++ [p]) (upd H p o) p u) : HRel K g (α ++ [p]) (upd H p o) (h ++ [u]) := (r.grow n).adopt (r.free n) a
theorem Ext.write {p : Addr} {o : HO} {k : Nat} (r : HRel K g α H h) (hk : α[k]? = some p) : Ext K α H α (upd H p o) :=
  ⟨Ex0.upd (.inr (r.mem (List.mem_of_getElem? hk))), fun q u h m => by
    rw [upd_ne]; exact h
    rintro rfl; exact m (List.mem_of_getElem? hk), fun _ z m => absurd z m⟩
theorem HRel.write {p : Addr} {o : HO} {u' : O} {k : Nat} (r : HRel K g α H h) (hk : α[k]? = some p) (a : OAt K g α (upd H p o) p u') : HRel K g α (upd H p o) (h.set k u') := by
  have x : Ext K α H α (upd H p o) := Ext.write r hk
  refine ⟨by simp [r.len], r.inj, fun m q w h1 h2 => ?_⟩
  rw [List.getElem?_set] at h2
  by_cases hm : k = m
  · subst hm
    rw [if_pos rfl] at h2
    split at h2
    · cases h2; rw [h1] at hk; cases hk; exact a
    · cases h2
  · rw [if_neg hm] at h2
    refine (r.here m q w h1 h2).ex0 x.toEx0 fun z e => ?_
    rw [upd_ne]; exact e
    rintro rfl; exact hm (r.inj _ _ _ hk h1)
end
end L2.FE
namespace L2.FE
open PySem PySem.Spec PyProof.Rows
noncomputable abbrev GG := Str → Option Addr
noncomputable abbrev EE := List Addr → Hp → Xc → Prop
structure VRel (K : PySem.W.Frag) (g : GG) (α : List Addr) (H : Hp) (env : En) (σ : St) : Prop where
  len : env.length = σ.length
  vars : ∀ (i : Nat) (d : D), env[i]? = some (some d) → ∃ v, σ[i]? = some (some v) ∧ RelD K g α H d v
structure SRel (K : PySem.W.Frag) (g : GG) (α : List Addr) (H : Hp) (env : En) (σ : St) (h : Hh) : Prop where
  heap : HRel K g α H h
  vs : VRel K g α H env σ
noncomputable def WQ (K : PySem.W.Frag) (g : GG) (ε : EE) (α : List Addr) (H : Hp) {β : Type} (r : R β) (k : β → Hh → Prop) : Prop := match r with
  | .ok b h => k b h
  | .err x h => ∀ α' H', Ext K α H α' H' → HRel K g α' H' h → ε α' H' x
  | .bad => False
section
variable {K : PySem.W.Frag} {g : GG} {ε : EE} {α α' : List Addr} {H H' : Hp} {β γ : Type}
theorem WQ.bind {r : R β} {f : β → Hh → R γ} {k : γ → Hh → Prop} (w : WQ K g ε α H (r.bind f) k) : WQ K g ε α H r fun b h => WQ K g ε α H (f b h) k := by
  cases r <;> exact w
theorem WQ.ext {r : R β} {k : β → Hh → Prop} (e : Ext K α H α' H') (w : WQ K g ε α H r k) : WQ K g ε α' H' r k := by
  cases r with
  | ok b h => exact w
  | err x h => exact fun a b c d => w a b (e.trans c) d
  | bad => exact w
theorem WQ.mono {r : R β} {k k' : β → Hh → Prop} (w : WQ K g ε α H r k) (m : ∀ b h, r = .ok b h → k b h → k' b h) : WQ K g ε α H r k' := by
  cases r with
  | ok b h => exact m b h rfl w
  | err x h => exact w
  | bad => exact w
theorem VRel.ext {env : En} {σ : St} (v : VRel K g α H env σ) (e : Ext K α H α' H') : VRel K g α' H' env σ :=
  ⟨v.len, fun i d h => let ⟨x, a, b⟩ := v.vars i d h; ⟨x, a, b.ext e⟩⟩
theorem SRel.ext {env : En} {σ : St} {h h' : Hh} (v : SRel K g α H env σ h) (e : Ext K α H α' H') (r : HRel K g α' H' h') : SRel K g α' H' env σ h' := ⟨r, v.vs.ext e⟩
theorem VRel.set {env : En} {σ : St} {i : Nat} {d : D} {x : V} (v : VRel K g α H env σ) (r : RelD K g α H d x) : VRel K g α H (env.set i (some d)) (σ.set i (some x)) := by
  refine ⟨by simp [v.len], fun j e h => ?_⟩
  rw [List.getElem?_set] at h ⊢
  by_cases hj : i = j
  · subst hj
    rw [if_pos rfl] at h ⊢
    have hl := v.len
    split at h
    · rw [if_pos (by omega)]
      cases h
      exact ⟨x, rfl, r⟩
    · cases h
  · rw [if_neg hj] at h ⊢
    exact v.vars j e h
end
noncomputable def Post (K : PySem.W.Frag) (g : GG) (α : List Addr) (H : Hp) (Q : VK) : D → Hh → Prop := fun d h => ∀ v H' α', Ext K α H α' H' → HRel K g α' H' h → RelD K g α' H' d v → Q v H'
noncomputable def PostT (K : PySem.W.Frag) (g : GG) (α : List Addr) (H : Hp) (Q : Bool → Hp → Prop) : Bool → Hh → Prop := fun b h => ∀ H' α', Ext K α H α' H' → HRel K g α' H' h → Q b H'
noncomputable def PostA (K : PySem.W.Frag) (g : GG) (α : List Addr) (H : Hp) (Q : List V → Hp → Prop) : List D → Hh → Prop := fun ds h => ∀ vs H' α', Ext K α H α' H' → HRel K g α' H' h → RelDs K g α' H' ds vs → Q vs H'
noncomputable def PostS (K : PySem.W.Frag) (g : GG) (α : List Addr) (H : Hp) (E : Ends) : Fl → Hh → Prop := fun fl h => ∀ H' α', Ext K α H α' H' → HRel K g α' H' h → match fl with
  | .nx e => ∀ σ, VRel K g α' H' e σ → E.nx σ H'
  | .bk e => ∀ σ, VRel K g α' H' e σ → E.bk σ H'
  | .ct e => ∀ σ, VRel K g α' H' e σ → E.ct σ H'
  | .rt d => ∀ v, RelD K g α' H' d v → E.rt v H'
noncomputable def tM (K : PySem.W.Frag) (g : GG) (ε : EE) (m : ME) : TE := fun σ H Q => ∃ α env h, SRel K g α H env σ h ∧ WQ K g ε α H (m env h) (Post K g α H Q)
noncomputable def tMT (K : PySem.W.Frag) (g : GG) (ε : EE) (m : MT) : TT := fun σ H Q => ∃ α env h, SRel K g α H env σ h ∧ WQ K g ε α H (m env h) (PostT K g α H Q)
noncomputable def tMA (K : PySem.W.Frag) (g : GG) (ε : EE) (m : MA) : TA := fun σ H Q => ∃ α env h, SRel K g α H env σ h ∧ WQ K g ε α H (m env h) (PostA K g α H Q)
noncomputable def tMS (K : PySem.W.Frag) (g : GG) (ε : EE) (m : MS) : TS := fun E σ H => ∃ α env h, SRel K g α H env σ h ∧ WQ K g ε α H (m env h) (PostS K g α H E)
section
variable {K : PySem.W.Frag} {g : GG} {ε : EE} {α α' : List Addr} {H H' : Hp} {env : En} {σ : St} {h : Hh}
theorem Post.ext {Q : VK} {d : D} (e : Ext K α H α' H') (p : Post K g α H Q d h) : Post K g α' H' Q d h := fun v H2 α2 e2 r rd => p v H2 α2 (e.trans e2) r rd
theorem PostT.ext {Q : Bool → Hp → Prop} {d : Bool} (e : Ext K α H α' H') (p : PostT K g α H Q d h) : PostT K g α' H' Q d h := fun H2 α2 e2 r => p H2 α2 (e.trans e2) r
theorem PostS.ext {E : Ends} {d : Fl} (e : Ext K α H α' H') (p : PostS K g α H E d h) : PostS K g α' H' E d h := fun H2 α2 e2 r => p H2 α2 (e.trans e2) r
theorem WQ.post {Q : VK} {r : R D} (e : Ext K α H α' H') (w : WQ K g ε α H r (Post K g α H Q)) : WQ K g ε α' H' r (Post K g α' H' Q) := (w.ext e).mono fun _ _ _ p => p.ext e
theorem WQ.postT {Q : Bool → Hp → Prop} {r : R Bool} (e : Ext K α H α' H') (w : WQ K g ε α H r (PostT K g α H Q)) : WQ K g ε α' H' r (PostT K g α' H' Q) := (w.ext e).mono fun _ _ _ p => p.ext e
theorem WQ.postS {E : Ends} {r : R Fl} (e : Ext K α H α' H') (w : WQ K g ε α H r (PostS K g α H E)) : WQ K g ε α' H' r (PostS K g α' H' E) := (w.ext e).mono fun _ _ _ p => p.ext e
theorem tM.use {m : ME} {Q : VK} {k : D → Hh → Prop} (s : SRel K g α H env σ h) (w : WQ K g ε α H (m env h) k)
    (q : ∀ d h' v H' α', Ext K α H α' H' → SRel K g α' H' env σ h' → RelD K g α' H' d v → k d h' → Q v H') : tM K g ε m σ H Q :=
  ⟨α, env, h, s, w.mono fun d h' _ kk v H' α' e r rd => q d h' v H' α' e (s.ext e r) rd kk⟩
theorem tMT.use {m : MT} {Q : Bool → Hp → Prop} {k : Bool → Hh → Prop} (s : SRel K g α H env σ h) (w : WQ K g ε α H (m env h) k)
    (q : ∀ d h' H' α', Ext K α H α' H' → SRel K g α' H' env σ h' → k d h' → Q d H') : tMT K g ε m σ H Q :=
  ⟨α, env, h, s, w.mono fun d h' _ kk H' α' e r => q d h' H' α' e (s.ext e r) kk⟩
theorem tMA.use {m : MA} {Q : List V → Hp → Prop} {k : List D → Hh → Prop} (s : SRel K g α H env σ h) (w : WQ K g ε α H (m env h) k)
    (q : ∀ d h' v H' α', Ext K α H α' H' → SRel K g α' H' env σ h' → RelDs K g α' H' d v → k d h' → Q v H') : tMA K g ε m σ H Q :=
  ⟨α, env, h, s, w.mono fun d h' _ kk v H' α' e r rd => q d h' v H' α' e (s.ext e r) rd kk⟩
theorem Post.now {Q : VK} {d : D} {v : V} (p : Post K g α H Q d h) (r : HRel K g α H h) (rd : RelD K g α H d v) : Q v H := p v H α Ext.refl r rd
end
theorem PE.imp {X : Cx} {e : Expr} {t t' : TE} (h : PE X e t) (i : ∀ σ H Q, t' σ H Q → t σ H Q) : PE X e t' := fun pins s σ H Q I w => h pins s σ H Q I (i σ H Q w)
theorem PT.imp {X : Cx} {e : Expr} {t t' : TT} (h : PT X e t) (i : ∀ σ H Q, t' σ H Q → t σ H Q) : PT X e t' := fun pins s σ H Q I w => h pins s σ H Q I (i σ H Q w)
theorem PW.imp {X : Cx} {e : Expr} {t t' : TT} (h : PW X e t) (i : ∀ σ H Q, t' σ H Q → t σ H Q) : PW X e t' := fun wh pins s σ H Q I w => h wh pins s σ H Q I (i σ H Q w)
theorem PA.imp {X : Cx} {e : List Expr} {t t' : TA} (h : PA X e t) (i : ∀ σ H Q, t' σ H Q → t σ H Q) : PA X e t' := fun p pins s σ H Q I w => h p pins s σ H Q I (i σ H Q w)
theorem PS.imp {X : Cx} {e : Stmt} {t t' : TS} (h : PS X e t) (i : ∀ σ H Q, t' σ H Q → t σ H Q) : PS X e t' := fun pins s σ H Q I w => h pins s σ H Q I (i Q σ H w)
theorem PSs.imp {X : Cx} {e : List Stmt} {t t' : TS} (h : PSs X e t) (i : ∀ σ H Q, t' σ H Q → t σ H Q) : PSs X e t' := fun pins s σ H Q I w => h pins s σ H Q I (i Q σ H w)
noncomputable def cVar (i : Nat) : ME := fun env h => match env[i]? with
  | some (some d) => .ok d h
  | _ => .bad
noncomputable def cC (d : D) : ME := fun _ h => .ok d h
noncomputable def cBin (f : D → D → Hh → R D) (a b : ME) : ME := fun env h => (a env h).bind fun x h1 => (b env h1).bind fun y h2 => f x y h2
noncomputable def cUn (f : D → Hh → R D) (a : ME) : ME := fun env h => (a env h).bind fun x h1 => f x h1
noncomputable def cNil : MA := fun _ h => .ok [] h
noncomputable def cCons (a : ME) (r : MA) : MA := fun env h => (a env h).bind fun x h1 => (r env h1).bind fun xs h2 => .ok (x :: xs) h2
noncomputable def cCall (f : List D → Hh → R D) (a : MA) : ME := fun env h => (a env h).bind fun xs h1 => f xs h1
noncomputable def cTest (f : D → Hh → R Bool) (a : ME) : MT := fun env h => (a env h).bind fun x h1 => f x h1
noncomputable def cNotT (a : MT) : MT := fun env h => (a env h).bind fun b h1 => .ok (!b) h1
noncomputable def cAndT (a b : MT) : MT := fun env h => (a env h).bind fun x h1 => if x = true then b env h1 else .ok false h1
noncomputable def cOrT (a b : MT) : MT := fun env h => (a env h).bind fun x h1 => if x = true then .ok true h1 else b env h1
noncomputable def cIf (c : MT) (a b : ME) : ME := fun env h => (c env h).bind fun x h1 => if x = true then a env h1 else b env h1
noncomputable def asB : D → Hh → R Bool
  | .bl b, h => .ok b h
  | _, _ => .bad
noncomputable def cAndV (a b : ME) : ME := fun env h => (a env h).bind fun x h1 => (asB x h1).bind fun k h2 => if k = true then b env h2 else .ok (.bl false) h2
noncomputable def cNotV (a : ME) : ME := fun env h => (a env h).bind fun x h1 => (asB x h1).bind fun k h2 => .ok (.bl (!k)) h2
noncomputable def cChain (f f' : D → D → Hh → R D) (a b c : ME) : ME := fun env h => (a env h).bind fun x h1 => (b env h1).bind fun y h2 => (f x y h2).bind fun z h3 => (asB z h3).bind fun k h4 =>
  if k = true then (c env h4).bind fun w h5 => f' y w h5 else .ok (.bl false) h4
noncomputable def Imp2 (K : PySem.W.Frag) (g : GG) (ε : EE) (f : D → D → Hh → R D) (r : R2) : Prop :=
  ∀ (α : List Addr) (H : Hp) (h : Hh) (a b : D) (x y : V) (Q : VK), HRel K g α H h → RelD K g α H a x → RelD K g α H b y → WQ K g ε α H (f a b h) (Post K g α H Q) → r x y H Q
noncomputable def Imp1 (K : PySem.W.Frag) (g : GG) (ε : EE) (f : D → Hh → R D) (r : V → Hp → VK → Prop) : Prop :=
  ∀ (α : List Addr) (H : Hp) (h : Hh) (a : D) (x : V) (Q : VK), HRel K g α H h → RelD K g α H a x → WQ K g ε α H (f a h) (Post K g α H Q) → r x H Q
noncomputable def ImpT (K : PySem.W.Frag) (g : GG) (ε : EE) (f : D → Hh → R Bool) (r : V → Hp → (Bool → Hp → Prop) → Prop) : Prop :=
  ∀ (α : List Addr) (H : Hp) (h : Hh) (a : D) (x : V) (Q : Bool → Hp → Prop), HRel K g α H h → RelD K g α H a x → WQ K g ε α H (f a h) (PostT K g α H Q) → r x H Q
noncomputable def ImpL (K : PySem.W.Frag) (g : GG) (ε : EE) (f : List D → Hh → R D) (r : List V → Hp → VK → Prop) : Prop :=
  ∀ (α : List Addr) (H : Hp) (h : Hh) (a : List D) (x : List V) (Q : VK), HRel K g α H h → RelDs K g α H a x → WQ K g ε α H (f a h) (Post K g α H Q) → r x H Q
noncomputable def ImpM (K : PySem.W.Frag) (g : GG) (ε : EE) (f : D → List D → Hh → R D) (r : V → List V → Hp → VK → Prop) : Prop :=
  ∀ (α : List Addr) (H : Hp) (h : Hh) (o : D) (a : List D) (y : V) (x : List V) (Q : VK), HRel K g α H h → RelD K g α H o y → RelDs K g α H a x → WQ K g ε α H (f o a h) (Post K g α H Q) → r y x H Q
section
variable {X : Cx} {g : GG} {ε : EE} {a b c : Expr} {ma mb mc : ME} {pos : Pos}
theorem se_var (i : Nat) {x : Str} {pos : Pos} (hN : X.N[i]? = some x := by rfl) (hv : Vis X.env.scope x := by first | exact Or.inl rfl | exact Or.inr (Or.inl rfl) | exact Or.inr (Or.inr rfl)) (hd : (x == ("__debug__" : Str)) = false := by decide)
    (hcd : (x == ("__classdict__" : Str)) = false := by decide) : PE X (.Name x pos) (tM X.K g ε (cVar i)) := by
  refine PE.imp (pe_var hN hv hd hcd) fun σ H Q ⟨α, env, h, s, w⟩ => ?_
  unfold cVar at w
  cases e : env[i]? with
  | none => rw [e] at w; exact w.elim
  | some d =>
    cases d with
    | none => rw [e] at w; exact w.elim
    | some d =>
      rw [e] at w
      obtain ⟨v, hv, rd⟩ := s.vs.vars i d e
      exact ⟨v, hv, Post.now w s.heap rd⟩
theorem tC_of {v : V} {d : D} {Q : VK} {σ : St} {H : Hp} (rd : ∀ α, RelD X.K g α H d v) (t : tM X.K g ε (cC d) σ H Q) : tC v σ H Q := by
  obtain ⟨α, env, h, s, w⟩ := t
  exact Post.now w s.heap (rd α)
theorem se_int {i j pos} : PE X (.Constant (.int i) j pos) (tM X.K g ε (cC (.int i))) := PE.imp pe_int fun _ _ _ t => tC_of (fun _ => .int i) t
theorem se_bl {i j pos} : PE X (.Constant (.bool i) j pos) (tM X.K g ε (cC (.bl i))) := PE.imp pe_bl fun _ _ _ t => tC_of (fun _ => .bl i) t
theorem se_str {i j pos} : PE X (.Constant (.str i) j pos) (tM X.K g ε (cC (.str i))) := PE.imp pe_str fun _ _ _ t => tC_of (fun _ => .str i) t
theorem se_globI {x : Str} {i : Int} {t : Tok} {pos : Pos} (hg : Gl X x) (hm : X.mg x = some (.int i t)) (hd : (x == ("__debug__" : Str)) = false := by decide) : PE X (.Name x pos) (tM X.K g ε (cC (.int i))) :=
  PE.imp (pe_glob (v := .int i) hg hm ⟨t, rfl⟩ hd) fun _ _ _ t => tC_of (fun _ => .int i) t
theorem tOp_of {f : D → D → Hh → R D} {r : R2} {K : PySem.W.Frag} (im : Imp2 K g ε f r) {σ : St} {H : Hp} {Q : VK} (t : tM K g ε (cBin f ma mb) σ H Q) : tOp r (tM K g ε ma) (tM K g ε mb) σ H Q := by
  obtain ⟨α, env, h, s, w⟩ := t
  refine tM.use s w.bind fun d1 h1 v1 H1 α1 e1 s1 r1 w1 => ?_
  refine tM.use s1 (w1.ext e1).bind fun d2 h2 v2 H2 α2 e2 s2 r2 w2 => ?_
  exact im α2 H2 h2 d1 d2 v1 v2 Q s2.heap (r1.ext e2) r2 ((w2.ext e2).mono fun _ _ _ p => p.ext (e1.trans e2))
theorem se_bin {op : Operator} {r : R2} {f : D → D → Hh → R D} (ho : OpR X (binaryOp op) r) (im : Imp2 X.K g ε f r) (ha : PE X a (tM X.K g ε ma)) (hb : PE X b (tM X.K g ε mb)) : PE X (.BinOp a op b pos) (tM X.K g ε (cBin f ma mb)) :=
  PE.imp (pe_op ho ha hb) fun _ _ _ t => tOp_of im t
theorem se_cmp {op : CmpOp} {r : R2} {f : D → D → Hh → R D} (ho : OpR X (compareOp op) r) (im : Imp2 X.K g ε f r) (ha : PE X a (tM X.K g ε ma)) (hb : PE X b (tM X.K g ε mb)) (hm : behindInMarks op b = false) : PE X (.Compare a [op] [b] pos) (tM X.K g ε (cBin f ma mb)) :=
  PE.imp (pe_cmpR ho ha hb hm) fun _ _ _ t => tOp_of im t
theorem tTest_of {K : PySem.W.Frag} {m : ME} {t : TE} (ht : ∀ σ H Q, tM K g ε m σ H Q → t σ H Q) {σ : St} {H : Hp} {Q : Bool → Hp → Prop} (w : tMT K g ε (cTest asB m) σ H Q) : tTest t σ H Q := by
  obtain ⟨α, env, h, s, w⟩ := w
  refine ht _ _ _ (tM.use s w.bind fun d1 h1 v1 H1 α1 e1 s1 r1 w1 => ?_)
  unfold asB at w1
  cases r1 with
  | bl k => exact ⟨k, rfl, w1 H1 α1 e1 s1.heap⟩
  | _ => exact w1.elim
theorem st_cmp {op : CmpOp} {r : R2} {f : D → D → Hh → R D} (ho : OpR X (compareOp op) r) (im : Imp2 X.K g ε f r) (ha : PE X a (tM X.K g ε ma)) (hb : PE X b (tM X.K g ε mb)) (hm : behindInMarks op b = false) : PT X (.Compare a [op] [b] pos) (tMT X.K g ε (cTest asB (cBin f ma mb))) :=
  PT.imp (pt_cmpR ho ha hb hm) fun _ _ _ t => tTest_of (fun _ _ _ u => tOp_of im u) t
theorem tChain_of {f f' : D → D → Hh → R D} {r r' : R2} {K : PySem.W.Frag} (im : Imp2 K g ε f r) (im' : Imp2 K g ε f' r') {σ : St} {H : Hp} {Q : VK} (t : tM K g ε (cChain f f' ma mb mc) σ H Q) : tChain r r' (tM K g ε ma) (tM K g ε mb) (tM K g ε mc) σ H Q := by
  obtain ⟨α, env, h, s, w⟩ := t
  refine tM.use s w.bind fun d1 h1 v1 H1 α1 e1 s1 r1 w1 => ?_
  refine tM.use s1 (w1.ext e1).bind fun d2 h2 v2 H2 α2 e2 s2 r2 w2 => ?_
  refine im α2 H2 h2 d1 d2 v1 v2 _ s2.heap (r1.ext e2) r2 ((w2.ext e2).bind.mono fun z h3 _ w3 v3 H3 α3 e3 hr3 r3 => ?_)
  have w4 := w3.bind
  unfold asB at w4
  cases r3 with
  | bl k =>
    refine ⟨k, rfl, ?_⟩
    have s3 := s2.ext e3 hr3
    cases k with
    | true =>
      have w5 : WQ K g ε α2 H2 ((mc env h3).bind fun w h5 => f' d2 w h5) _ := w4
      rw [if_pos rfl]
      refine tM.use s3 (w5.ext e3).bind fun d4 h4 v4 H4 α4 e4 s4 r4 w6 => ?_
      exact im' α4 H4 h4 d2 d4 v2 v4 Q s4.heap (r2.ext (e3.trans e4)) r4 ((w6.ext e4).mono fun _ _ _ p => p.ext (e1.trans (e2.trans (e3.trans e4))))
    | false =>
      rw [if_neg Bool.false_ne_true]
      have w5 : Post K g α H Q (.bl false) h3 := w4
      exact w5 _ H3 α3 (e1.trans (e2.trans e3)) s3.heap (.bl false)
  | _ => exact w4.elim
theorem se_chain {op op' : CmpOp} {r r' : R2} {f f' : D → D → Hh → R D} (ho : OpR X (compareOp op) r) (ho' : OpR X (compareOp op') r') (im : Imp2 X.K g ε f r) (im' : Imp2 X.K g ε f' r') (ha : PE X a (tM X.K g ε ma)) (hb : PE X b (tM X.K g ε mb)) (hc : PE X c (tM X.K g ε mc))
    (hm : lastMarks [op, op'] [b, c] = false := by with_unfolding_all rfl) : PE X (.Compare a [op, op'] [b, c] pos) (tM X.K g ε (cChain f f' ma mb mc)) := PE.imp (pe_chain ho ho' ha hb hc hm) fun _ _ _ t => tChain_of im im' t
theorem st_chain {op op' : CmpOp} {r r' : R2} {f f' : D → D → Hh → R D} (ho : OpR X (compareOp op) r) (ho' : OpR X (compareOp op') r') (im : Imp2 X.K g ε f r) (im' : Imp2 X.K g ε f' r') (ha : PE X a (tM X.K g ε ma)) (hb : PE X b (tM X.K g ε mb)) (hc : PE X c (tM X.K g ε mc))
    (hm : lastMarks [op, op'] [b, c] = false := by with_unfolding_all rfl) : PT X (.Compare a [op, op'] [b, c] pos) (tMT X.K g ε (cTest asB (cChain f f' ma mb mc))) := PT.imp (pt_chain ho ho' ha hb hc hm) fun _ _ _ t => tTest_of (fun _ _ _ u => tChain_of im im' u) t
theorem se_un {op : UnaryOp} {r : V → Hp → VK → Prop} {f : D → Hh → R D} (ho : UnR X (unaryOp op) r) (im : Imp1 X.K g ε f r) (ha : PE X a (tM X.K g ε ma)) : PE X (.UnaryOp op a pos) (tM X.K g ε (cUn f ma)) :=
  PE.imp (pe_un ho ha) fun σ H Q ⟨α, env, h, s, w⟩ => tM.use s w.bind fun d1 h1 v1 H1 α1 e1 s1 r1 w1 => im α1 H1 h1 d1 v1 Q s1.heap r1 (w1.post e1)
theorem se_ix {r : R2} {f : D → D → Hh → R D} (hr : IxR X r) (im : Imp2 X.K g ε f r) (ha : PE X a (tM X.K g ε ma)) (hb : PE X b (tM X.K g ε mb)) (hs : PlainIx b) : PE X (.Subscript a b pos) (tM X.K g ε (cBin f ma mb)) :=
  PE.imp (pe_ix hr ha hb hs) fun _ _ _ t => tOp_of im t
theorem st_truth {f : D → Hh → R Bool} (im : ImpT X.K g ε f (fun x H Q => ∃ k, TruV X.K x H k ∧ Q k H)) (ha : PE X a (tM X.K g ε ma)) (he : ∀ whole, isTrue a X.env whole = (do let v ← whole; standAt a.pos; holding [v] (truthy v))) : PT X a (tMT X.K g ε (cTest f ma)) :=
  PT.imp (pt_truth ha he) fun σ H Q ⟨α, env, h, s, w⟩ => tM.use s w.bind fun d1 h1 v1 H1 α1 e1 s1 r1 w1 => im α1 H1 h1 d1 v1 Q s1.heap r1 (w1.postT e1)
theorem st_not {mt : MT} (ha : PT X a (tMT X.K g ε mt)) : PT X (.UnaryOp .Not a pos) (tMT X.K g ε (cNotT mt)) :=
  PT.imp (pt_not ha) fun σ H Q ⟨α, env, h, s, w⟩ => tMT.use s w.bind fun d1 h1 H1 α1 e1 s1 w1 => w1 H1 α1 e1 s1.heap
end
end L2.FE
namespace L2.FE
open PySem PySem.Spec PyProof.Rows
section
variable {X : Cx} {g : GG} {ε : EE} {a b c e : Expr} {es : List Expr} {rest : List Expr} {ma mb mc me : ME} {mt mu : MT} {pos : Pos}
theorem sw_and1 (ha : PT X a (tMT X.K g ε mt)) : PW X (.BoolOp .And [a] pos) (tMT X.K g ε mt) := pw_and1 ha
theorem sw_or1 (ha : PT X a (tMT X.K g ε mt)) : PW X (.BoolOp .Or [a] pos) (tMT X.K g ε mt) := pw_or1 ha
theorem sw_and (ha : PT X a (tMT X.K g ε mt)) (hb : PW X (.BoolOp .And (b :: rest) pos) (tMT X.K g ε mu)) : PW X (.BoolOp .And (a :: b :: rest) pos) (tMT X.K g ε (cAndT mt mu)) :=
  PW.imp (pw_and ha hb) fun σ H Q ⟨α, env, h, s, w⟩ => tMT.use s w.bind fun d1 h1 H1 α1 e1 s1 w1 => by
    cases d1 with
    | true => rw [if_pos rfl] at w1 ⊢; exact tMT.use s1 (w1.ext e1) fun d2 h2 H2 α2 e2 s2 w2 => w2 H2 α2 (e1.trans e2) s2.heap
    | false => rw [if_neg Bool.false_ne_true] at w1 ⊢; exact w1 H1 α1 e1 s1.heap
theorem sw_or (ha : PT X a (tMT X.K g ε mt)) (hb : PW X (.BoolOp .Or (b :: rest) pos) (tMT X.K g ε mu)) : PW X (.BoolOp .Or (a :: b :: rest) pos) (tMT X.K g ε (cOrT mt mu)) :=
  PW.imp (pw_or ha hb) fun σ H Q ⟨α, env, h, s, w⟩ => tMT.use s w.bind fun d1 h1 H1 α1 e1 s1 w1 => by
    cases d1 with
    | true => rw [if_pos rfl] at w1 ⊢; exact w1 H1 α1 e1 s1.heap
    | false => rw [if_neg Bool.false_ne_true] at w1 ⊢; exact tMT.use s1 (w1.ext e1) fun d2 h2 H2 α2 e2 s2 w2 => w2 H2 α2 (e1.trans e2) s2.heap
theorem se_ifExp (hc : PT X c (tMT X.K g ε mt)) (ha : PE X a (tM X.K g ε ma)) (hb : PE X b (tM X.K g ε mb)) : PE X (.IfExp c a b pos) (tM X.K g ε (cIf mt ma mb)) :=
  PE.imp (pe_ifExp hc ha hb) fun σ H Q ⟨α, env, h, s, w⟩ => tMT.use s w.bind fun d1 h1 H1 α1 e1 s1 w1 => by
    cases d1 with
    | true => rw [if_pos rfl] at w1 ⊢; exact tM.use s1 (w1.ext e1) fun d2 h2 v2 H2 α2 e2 s2 r2 w2 => w2 v2 H2 α2 (e1.trans e2) s2.heap r2
    | false => rw [if_neg Bool.false_ne_true] at w1 ⊢; exact tM.use s1 (w1.ext e1) fun d2 h2 v2 H2 α2 e2 s2 r2 w2 => w2 v2 H2 α2 (e1.trans e2) s2.heap r2
theorem se_one {op} (h : PE X a (tM X.K g ε ma)) : PE X (.BoolOp op [a] pos) (tM X.K g ε ma) := pe_one h
theorem asB_of {K : PySem.W.Frag} {α : List Addr} {H H1 : Hp} {α1 : List Addr} {d : D} {v : V} {h : Hh} {β : Type} {f : Bool → Hh → R β} {k : β → Hh → Prop} (r : RelD K g α1 H1 d v) (w : WQ K g ε α H ((asB d h).bind f) k) : ∃ b, v = .bl b ∧ d = .bl b ∧ WQ K g ε α H (f b h) k := by
  cases r with
  | bl b => exact ⟨b, rfl, rfl, w⟩
  | _ => exact w.elim
theorem se_and (ha : PE X a (tM X.K g ε ma)) (hb : PE X (.BoolOp .And (b :: rest) pos) (tM X.K g ε mb)) : PE X (.BoolOp .And (a :: b :: rest) pos) (tM X.K g ε (cAndV ma mb)) :=
  PE.imp (pe_and ha hb) fun σ H Q ⟨α, env, h, s, w⟩ => tM.use s w.bind fun d1 h1 v1 H1 α1 e1 s1 r1 w1 => by
    obtain ⟨k, rfl, rfl, w2⟩ := asB_of r1 w1
    refine ⟨k, rfl, ?_⟩
    cases k with
    | true => rw [if_pos rfl] at w2 ⊢; exact tM.use s1 (w2.ext e1) fun d2 h2 v2 H2 α2 e2 s2 r2 w2 => w2 v2 H2 α2 (e1.trans e2) s2.heap r2
    | false => rw [if_neg Bool.false_ne_true] at w2 ⊢; exact w2 _ H1 α1 e1 s1.heap (.bl false)
theorem se_not (ha : PE X a (tM X.K g ε ma)) : PE X (.UnaryOp .Not a pos) (tM X.K g ε (cNotV ma)) :=
  PE.imp (pe_not ha) fun σ H Q ⟨α, env, h, s, w⟩ => tM.use s w.bind fun d1 h1 v1 H1 α1 e1 s1 r1 w1 => by
    obtain ⟨k, rfl, rfl, w2⟩ := asB_of r1 w1
    exact ⟨k, rfl, w2 _ H1 α1 e1 s1.heap (.bl _)⟩
variable {mr : MA}
theorem sa_nil : PA X [] (tMA X.K g ε cNil) := PA.imp pa_nil fun σ H Q ⟨α, env, h, s, w⟩ => w [] H α Ext.refl s.heap .nil
theorem sa_cons (ha : PE X e (tM X.K g ε ma)) (hr : PA X es (tMA X.K g ε mr)) (hs : starEach (e :: es) X.env = (false, eval e X.env) :: starEach es X.env := by rfl) : PA X (e :: es) (tMA X.K g ε (cCons ma mr)) :=
  PA.imp (pa_cons ha hr hs) fun σ H Q ⟨α, env, h, s, w⟩ => tM.use s w.bind fun d1 h1 v1 H1 α1 e1 s1 r1 w1 => tMA.use s1 (w1.ext e1).bind fun d2 h2 v2 H2 α2 e2 s2 r2 w2 => w2 _ H2 α2 (e1.trans e2) s2.heap (.cons (r1.ext e2) r2)
noncomputable def dTup : List D → Hh → R D := fun ds h => if ds.length ≤ 1000000 then .ok (.tup ds) h else .bad
theorem Post.tup {K : PySem.W.Frag} {α : List Addr} {H : Hp} {h : Hh} {ds : List D} {vs : List V} {Q : VK} {p : Addr} (w : Post K g α H Q (.tup ds) h) (r : HRel K g α H h) (rd : RelDs K g α H ds vs) (n : H p = none) : Q (.ref p) (upd H p (.tup vs)) :=
  w _ _ α (Ext.fresh n) (r.grow n) (.tup upd_same (rd.ext (Ext.fresh n)))
theorem WQ.iteP {K : PySem.W.Frag} {α : List Addr} {H : Hp} {β : Type} {c : Prop} [Decidable c] {r : R β} {k : β → Hh → Prop} (w : WQ K g ε α H (if c then r else .bad) k) : c ∧ WQ K g ε α H r k := by
  by_cases h : c
  · rw [if_pos h] at w; exact ⟨h, w⟩
  · rw [if_neg h] at w; exact w.elim
theorem line_of {n : Nat} (h : n ≤ 1000000) : n ≤ sizeLine := by rw [sizeLine_eq]; omega
theorem se_tup {x1} (ha : PA X es (tMA X.K g ε mr)) : PE X (.Tuple es x1 pos) (tM X.K g ε (cCall dTup mr)) :=
  PE.imp (pe_tup ha) fun σ H Q ⟨α, env, h, s, w⟩ => tMA.use s w.bind fun d1 h1 v1 H1 α1 e1 s1 r1 w1 => by
    obtain ⟨hl, w2⟩ := WQ.iteP w1
    exact ⟨line_of (by rw [← r1.length]; exact hl), fun p hp => Post.tup (Post.ext e1 w2) s1.heap r1 hp⟩
theorem tCB_of {f : List D → Hh → R D} {r : List V → Hp → VK → Prop} {K : PySem.W.Frag} (im : ImpL K g ε f r) {σ : St} {H : Hp} {Q : VK} (t : tM K g ε (cCall f mr) σ H Q) : tCB r (tMA K g ε mr) σ H Q := by
  obtain ⟨α, env, h, s, w⟩ := t
  exact tMA.use s w.bind fun d1 h1 v1 H1 α1 e1 s1 r1 w1 => im α1 H1 h1 d1 v1 Q s1.heap r1 (w1.post e1)
theorem se_callB {id : String} {x : Str} {p : Pos} {f : List D → Hh → R D} {r : List V → Hp → VK → Prop} (hc : CallR X (.builtin id) r) (im : ImpL X.K g ε f r) (hg : Gl X x) (hm : X.mg x = none) (hv : bootBuiltins x = some (.builtin id)) (ha : PA X (e :: es) (tMA X.K g ε mr)) (hn : x ≠ "__name__" := by decide) (hdb : (x == ("__debug__" : Str)) = false := by decide)
    (he : starEach (e :: es) X.env = (false, eval e X.env) :: starEach es X.env := by rfl) (hpl : (backTo pos (starEach es X.env)).any (·.1) = false := by rfl) : PE X (.Call (.Name x p) (e :: es) [] pos) (tM X.K g ε (cCall f mr)) :=
  PE.imp (pe_callB hc hg hm hv ha hn hdb he hpl) fun _ _ _ t => tCB_of im t
theorem se_callTy {id : String} {x : Str} {p : Pos} {f : List D → Hh → R D} {r : List V → Hp → VK → Prop} (hc : CallR X (.type id) r) (im : ImpL X.K g ε f r) (hg : Gl X x) (hm : X.mg x = none) (hv : bootBuiltins x = some (.type id)) (ha : PA X (e :: es) (tMA X.K g ε mr)) (hn : x ≠ "__name__" := by decide) (hdb : (x == ("__debug__" : Str)) = false := by decide)
    (he : starEach (e :: es) X.env = (false, eval e X.env) :: starEach es X.env := by rfl) (hpl : (backTo pos (starEach es X.env)).any (·.1) = false := by rfl) : PE X (.Call (.Name x p) (e :: es) [] pos) (tM X.K g ε (cCall f mr)) :=
  PE.imp (pe_callTy hc hg hm hv ha hn hdb he hpl) fun _ _ _ t => tCB_of im t
end
noncomputable def cSkip : MS := fun env h => .ok (.nx env) h
noncomputable def cSeq (a b : MS) : MS := fun env h => (a env h).bind fun fl h1 => match fl with
  | .nx e => b e h1
  | fl => .ok fl h1
noncomputable def cExpr (a : ME) : MS := fun env h => (a env h).bind fun _ h1 => .ok (.nx env) h1
noncomputable def cRet (a : ME) : MS := fun env h => (a env h).bind fun d h1 => .ok (.rt d) h1
noncomputable def cIfS (c : MT) (a b : MS) : MS := fun env h => (c env h).bind fun x h1 => if x = true then a env h1 else b env h1
noncomputable def cSet (i : Nat) (a : ME) : MS := fun env h => (a env h).bind fun d h1 => .ok (.nx (env.set i (some d))) h1
noncomputable def cPar (i j : Nat) (a : MA) : MS := fun env h => (a env h).bind fun ds h1 => match ds with
  | [x, y] => .ok (.nx ((env.set i (some x)).set j (some y))) h1
  | _ => .bad
noncomputable def cSetIx (f : D → D → D → Hh → R Unit) (o i v : ME) : MS := fun env h => (v env h).bind fun x h1 => (o env h1).bind fun y h2 => (i env h2).bind fun z h3 => (f y z x h3).bind fun _ h4 => .ok (.nx env) h4
noncomputable def cNoS : MS := fun _ _ => .bad
section
variable {X : Cx} {g : GG} {ε : EE} {e : Expr} {me : ME} {ms mu : MS} {mt : MT} {st : Stmt} {rest : List Stmt} {pos : Pos}
theorem SRel.nx {K : PySem.W.Frag} {α α' : List Addr} {H H' : Hp} {env : En} {σ : St} {h' : Hh} {E : Ends} (s : SRel K g α' H' env σ h') (e : Ext K α H α' H') (w : PostS K g α H E (.nx env) h') : E.nx σ H' := w H' α' e s.heap σ s.vs
theorem ss_skip : PSs X [] (tMS X.K g ε cSkip) := PSs.imp pss_nil fun E σ H ⟨α, env, h, s, w⟩ => s.nx Ext.refl w
theorem tMS.use {K : PySem.W.Frag} {α : List Addr} {H : Hp} {env : En} {σ : St} {h : Hh} {m : MS} {E : Ends} {k : Fl → Hh → Prop} (s : SRel K g α H env σ h) (w : WQ K g ε α H (m env h) k)
    (q : ∀ fl h' H' α', Ext K α H α' H' → HRel K g α' H' h' → k fl h' → match fl with
      | .nx e => ∀ σ', SRel K g α' H' e σ' h' → E.nx σ' H'
      | .bk e => ∀ σ', SRel K g α' H' e σ' h' → E.bk σ' H'
      | .ct e => ∀ σ', SRel K g α' H' e σ' h' → E.ct σ' H'
      | .rt d => ∀ v, RelD K g α' H' d v → E.rt v H') : tMS K g ε m E σ H :=
  ⟨α, env, h, s, w.mono fun fl h' _ kk H' α' e r => by
    have := q fl h' H' α' e r kk
    cases fl with
    | nx e => exact fun σ' v => this σ' ⟨r, v⟩
    | bk e => exact fun σ' v => this σ' ⟨r, v⟩
    | ct e => exact fun σ' v => this σ' ⟨r, v⟩
    | rt d => exact this⟩
theorem ss_cons (h1 : PS X st (tMS X.K g ε ms)) (h2 : PSs X rest (tMS X.K g ε mu)) : PSs X (st :: rest) (tMS X.K g ε (cSeq ms mu)) :=
  PSs.imp (pss_cons h1 h2) fun E σ H ⟨α, env, h, s, w⟩ => tMS.use s w.bind fun fl h' H' α' e r kk => by
    cases fl with
    | nx env' => exact fun σ' s' => ⟨α', env', h', s', WQ.postS e kk⟩
    | bk env' => exact fun σ' s' => (show PostS X.K g α H E (.bk env') h' from kk) H' α' e r σ' s'.vs
    | ct env' => exact fun σ' s' => (show PostS X.K g α H E (.ct env') h' from kk) H' α' e r σ' s'.vs
    | rt d => exact fun v rv => (show PostS X.K g α H E (.rt d) h' from kk) H' α' e r v rv
theorem ss_one (h1 : PS X st (tMS X.K g ε ms)) : PSs X [st] (tMS X.K g ε ms) := pss_one h1
theorem s_expr (he : PE X e (tM X.K g ε me)) (hs : swapsWith e none pos.line X.env = pure false := by rfl) : PS X (.Expr e pos) (tMS X.K g ε (cExpr me)) :=
  PS.imp (ps_expr he hs) fun E σ H ⟨α, env, h, s, w⟩ => tM.use s w.bind fun d1 h1 v1 H1 α1 e1 s1 r1 w1 => s1.nx e1 w1
theorem s_ret (he : PE X e (tM X.K g ε me)) : PS X (.Return (some e) pos) (tMS X.K g ε (cRet me)) :=
  PS.imp (ps_ret he) fun E σ H ⟨α, env, h, s, w⟩ => tM.use s w.bind fun d1 h1 v1 H1 α1 e1 s1 r1 w1 => (show PostS X.K g α H E (.rt d1) h1 from w1) H1 α1 e1 s1.heap v1 r1
theorem s_if {c : Expr} {A B : List Stmt} (hc : PT X c (tMT X.K g ε mt)) (ha : PSs X A (tMS X.K g ε ms)) (hb : PSs X B (tMS X.K g ε mu)) : PS X (.If c A B pos) (tMS X.K g ε (cIfS mt ms mu)) :=
  PS.imp (ps_if hc ha hb) fun E σ H ⟨α, env, h, s, w⟩ => tMT.use s w.bind fun d1 h1 H1 α1 e1 s1 w1 => by
    cases d1 with
    | true => rw [if_pos rfl] at w1 ⊢; exact ⟨α1, env, h1, s1, WQ.postS e1 w1⟩
    | false => rw [if_neg Bool.false_ne_true] at w1 ⊢; exact ⟨α1, env, h1, s1, WQ.postS e1 w1⟩
theorem s_set {i : Nat} {x : Str} {pos' : Pos} (hN : X.N.Nodup) (hi : X.N[i]? = some x) (hx : Loc X.env.scope x) (he : PE X e (tM X.K g ε me)) (hs : swapsWith e (some (.Name x pos')) pos.line X.env = pure false := by rfl) (hf : X.fn x = true ∨ X.env.scope.names.lookup x = some .local := by first | exact .inl rfl | exact .inr rfl | assumption) :
    PS X (.Assign [.Name x pos'] e pos) (tMS X.K g ε (cSet i me)) :=
  PS.imp (ps_set hN hi hx he hs hf) fun E σ H ⟨α, env, h, s, w⟩ => tM.use s w.bind fun d1 h1 v1 H1 α1 e1 s1 r1 w1 => (show PostS X.K g α H E (.nx (env.set i (some d1))) h1 from w1) H1 α1 e1 s1.heap _ (s1.vs.set r1)
theorem s_par {i j : Nat} {x y : Str} {a b : Expr} {ma : MA} {px py pt : Pos} {kt k2 pt2} (hc : X.calm = true) (hN : X.N.Nodup) (hi : X.N[i]? = some x) (hj : X.N[j]? = some y) (hij : i ≠ j)
    (hx : X.env.scope.names.lookup x = some .local) (hy : X.env.scope.names.lookup y = some .local) (ha : PA X [a, b] (tMA X.K g ε ma))
    (hw : swappedStores [.Tuple [.Name x px, .Name y py] kt pt] (.Tuple [a, b] k2 pt2) X.env = pure (some [x, y]))
    (hs : swapsWithSole [.Tuple [.Name x px, .Name y py] kt pt] (.Tuple [a, b] k2 pt2) pos.line X.env = pure false := by rfl) :
    PS X (.Assign [.Tuple [.Name x px, .Name y py] kt pt] (.Tuple [a, b] k2 pt2) pos) (tMS X.K g ε (cPar i j ma)) :=
  PS.imp (ps_par hc hN hi hj hij hx hy ha hw hs) fun E σ H ⟨α, env, h, s, w⟩ => tMA.use s w.bind fun d1 h1 v1 H1 α1 e1 s1 r1 w1 => by
    cases r1 with
    | nil => exact w1.elim
    | cons ra rr =>
      cases rr with
      | nil => exact w1.elim
      | cons rb rr =>
        cases rr with
        | nil => exact ⟨_, _, rfl, (show PostS X.K g α H E (.nx _) h1 from w1) H1 α1 e1 s1.heap _ ((s1.vs.set ra).set rb)⟩
        | cons _ _ => exact w1.elim
noncomputable def ImpS (K : PySem.W.Frag) (g : GG) (ε : EE) (f : D → D → D → Hh → R Unit) (t : TSet) : Prop :=
  ∀ (α : List Addr) (H : Hp) (h : Hh) (o i v : D) (x y z : V) (Q : Hp → Prop), HRel K g α H h → RelD K g α H o x → RelD K g α H i y → RelD K g α H v z → WQ K g ε α H (f o i v h) (fun _ h' => ∀ H' α', Ext K α H α' H' → HRel K g α' H' h' → Q H') → t x y z H Q
theorem s_setIx {o i : Expr} {mo mi : ME} {t : TSet} {f : D → D → D → Hh → R Unit} {p : Pos} (he : PE X e (tM X.K g ε me)) (ho : PE X o (tM X.K g ε mo)) (hi : PE X i (tM X.K g ε mi)) (hp : PSet X t) (im : ImpS X.K g ε f t)
    (ha : ∀ v, assign (.Subscript o i p) X.env v = (do
      let ov ← holding [v] (eval o X.env)
      let iv ← holding [v, ov] (eval i X.env)
      standAt p
      holding [v, ov, iv] (setItem ov iv v)
      release [v, ov, iv] []) := by intro _; rfl)
    (hs : swapsWithSole [.Subscript o i p] e pos.line X.env = pure false := by rfl) (hw : swappedStores [.Subscript o i p] e X.env = pure none := by rfl)
    (h1 : (assignEach [.Subscript o i p] X.env).map (·.2) = [assign (.Subscript o i p) X.env] := by rfl) : PS X (.Assign [.Subscript o i p] e pos) (tMS X.K g ε (cSetIx f mo mi me)) :=
  PS.imp (ps_asg he (pg_sub ho hi hp ha) hs hw h1) fun E σ H ⟨α, env, h, s, w⟩ => tM.use s w.bind fun d1 h1 v1 H1 α1 e1 s1 r1 w1 => tM.use s1 (w1.ext e1).bind fun d2 h2 v2 H2 α2 e2 s2 r2 w2 => tM.use s2 (w2.ext e2).bind fun d3 h3 v3 H3 α3 e3 s3 r3 w3 => by
    refine im α3 H3 h3 d2 d3 d1 v2 v3 v1 _ s3.heap (r2.ext e3) r3 ((r1.ext e2).ext e3) ((w3.ext e3).bind.mono fun _ h4 _ w4 H4 α4 e4 hr4 => ?_)
    exact (show PostS X.K g α H E (.nx env) h4 from w4) H4 α4 (e1.trans (e2.trans (e3.trans e4))) hr4 _ (s3.vs.ext e4)
end
end L2.FE
namespace L2.FE
open PySem PySem.Spec PyProof.Rows
theorem inv_frz {X : Cx} {pins : List (Addr × Obj)} {σ : St} {H : Hp} {s : Shared} {p : Addr} {u : HO} (I : Inv X pins σ H s) (h : H p = some u) (mu : Mut (some u)) : ∃ o, Inv X pins σ (upd H p (.frz o u)) s := by
  obtain ⟨o, ho⟩ : ∃ o, s.heap.get? p = some o := by
    have hl := (I.hok p _ h).lt
    cases e : s.heap.get? p with
    | some o => exact ⟨o, rfl⟩
    | none => 
      have q := I.hok p _ h
      cases u with
      | lst xs => obtain ⟨_, _, _, _, e'⟩ := q; rw [e] at e'; cases e'
      | dK kvs => obtain ⟨_, _, _, _, o, _, _, e', _⟩ := q; rw [e] at e'; cases e'
      | dT kvs => obtain ⟨_, _, _, _, o, _, _, e', _⟩ := q; rw [e] at e'; cases e'
      | set S n => obtain ⟨o, _, _, _, e', _⟩ := q; rw [e] at e'; cases e'
      | ins C dx fs => obtain ⟨_, _, _, e', _⟩ := q; rw [e] at e'; cases e'
      | ext φ => obtain ⟨_, ⟨_, e'⟩, _⟩ := q; rw [e] at e'; cases e'
      | _ => exact absurd mu (fun z => z)
  have nt : ∀ b xs, H b = some (.tup xs) → b ≠ p := fun b xs e z => by subst z; rw [h] at e; cases e; exact mu
  have nf : ∀ b o u, H b = some (.frz o u) → b ≠ p := fun b o u e z => by subst z; rw [h] at e; cases e; exact mu
  have nb : ∀ b ps, H b = some (.tbl ps) → b ≠ p := fun b ps e z => by subst z; rw [h] at e; cases e; exact mu
  have no : ∀ b y, H b = some (.own y) → b ≠ p := fun b ps e z => by subst z; rw [h] at e; cases e; exact mu
  have hok : HOk X.prog X.w (upd H p (.frz o u)) s.heap := fun b v q => by
    by_cases hb : b = p
    · subst hb
      rw [upd_same] at q; cases q
      exact ⟨ho, (I.hok b _ h).stay (fun _ _ _ z => z) (fun c z => by rw [upd_ne (no c _ z)]; exact z) fun c xs z => by rw [upd_ne (nt c xs z)]; exact z⟩
    · rw [upd_ne hb] at q
      exact (I.hok b v q).stay (fun _ _ _ z => z) (fun c z => by rw [upd_ne (no c _ z)]; exact z) fun c xs z => by rw [upd_ne (nt c xs z)]; exact z
  refine ⟨o, ?_⟩
  have np : ∀ b, H b = none → b ≠ p := fun b e z => by subst z; rw [h] at e; cases e
  have := I.un (H' := upd H p (.frz o u)) (h' := s.heap) (t' := s.toks) ⟨fun b o q _ _ _ => q, fun b o q _ _ _ => ⟨o.slots, q⟩, fun b v q n _ => (by rw [upd_ne (np b n)]; exact n), fun b o q _ => ⟨o, q⟩, fun b xs q => (by rw [upd_ne (nt b xs q)]; exact q), fun b o v q => (by rw [upd_ne (nf b o v q)]; exact q), fun b ps q => ⟨#[], by rw [upd_ne (nb b ps q), q]; simp⟩⟩ hok
  exact this
noncomputable def FrzP (Q : VK) : VK := fun v H => Q v H ∨ ∃ p u, v = .ref p ∧ H p = some u ∧ Mut (some u) ∧ ∀ o, Q v (upd H p (.frz o u))
theorem EP.frz {X : Cx} {pins : List (Addr × Obj)} {σ : St} {Q : VK} {u : Value} {s' : Shared} (h : EP X pins σ (FrzP Q) u s') : EP X pins σ Q u s' := by
  obtain ⟨v, H', I, r, q | ⟨p, u, rfl, e, m, q⟩⟩ := h
  · exact ⟨v, H', I, r, q⟩
  · obtain ⟨o, I'⟩ := inv_frz I e m
    exact ⟨_, _, I', r, q o⟩
theorem PE.frz {X : Cx} {e : Expr} {t : TE} (h : PE X e t) : PE X e fun σ H Q => t σ H (FrzP Q) := fun pins s σ H Q I w => thn (h pins s σ H _ I w) fun _ _ z => EP.frz z
theorem OpR.frz {X : Cx} {f : Value → Value → Sem Value} {r : R2} (h : OpR X f r) : OpR X f fun x y H Q => r x y H (FrzP Q) := fun pins s σ H x y v u Q I rx ry q => thn (h pins s σ H x y v u _ I rx ry q) fun _ _ z => EP.frz z
noncomputable def FrzE (D : Ends) : Ends := { D with nx := fun σ H => D.nx σ H ∨ ∃ p u, H p = some u ∧ Mut (some u) ∧ ∀ o, D.nx σ (upd H p (.frz o u)) }
theorem PS.frz {X : Cx} {st : Stmt} {t : TS} (h : PS X st t) : PS X st fun E σ H => t (FrzE E) σ H := fun pins s σ H E I w => thn (h pins s σ H _ I w) fun fl s' z => by
  cases fl with
  | next =>
    obtain ⟨σ', H', I, q | ⟨p, u, e, m, q⟩⟩ := z
    · exact ⟨σ', H', I, q⟩
    · obtain ⟨o, I'⟩ := inv_frz I e m
      exact ⟨σ', _, I', q o⟩
  | brk => exact z
  | cont => exact z
  | ret u => exact z
theorem set_frz {E : Ends} {σ : St} {i : Nat} {v : V} {H1 : Hp} (z : FrzP (fun v H1 => E.nx (σ.set i (some v)) H1) v H1) : (FrzE E).nx (σ.set i (some v)) H1 := by
  rcases z with z | ⟨p, u, _, e, m, q⟩
  · exact .inl z
  · exact .inr ⟨p, u, e, m, q⟩
noncomputable abbrev NL := List D → Hh → R D
noncomputable def newL : NL := fun ys h2 => .ok (.ref h2.length) (h2 ++ [O.lst ys])
noncomputable def frzL : NL := fun ys h2 => .ok (.frl ys) h2
class IsNL (nl : NL) : Prop where
  at' : ∀ {K : PySem.W.Frag} {g : GG} {ε : EE} {α1 α2 : List Addr} {H1 H2 : Hp} {h : Hh} {as : List D} {ys : List V} {acc : Addr} {Q : D → Hh → Prop} {R : VK}, WQ K g ε α1 H1 (nl as h) Q → (∀ d h', Q d h' → Post K g α1 H1 R d h') → Ext K α1 H1 α2 H2 → HRel K g α2 H2 h → RelDs K g α2 H2 as ys → H2 acc = some (.lst ys) → acc ∉ α2 → H1 acc = none → FrzP R (.ref acc) H2
instance : IsNL newL where
  at' := fun {K g ε α1 α2 H1 H2 h as ys acc Q R} w hq x2 hr2 ra ha hna hacc => by
    have x3 : Ext K α1 H1 (α2 ++ [acc]) H2 := ⟨x2.toEx0.trans (Ex0.refl.more _), x2.keep, fun p z n => by
      rcases List.mem_append.mp z with z | z
      · exact x2.new p z n
      · rw [List.mem_singleton.mp z]; exact hacc⟩
    refine .inl (hq _ _ w _ H2 (α2 ++ [acc]) x3 (hr2.adopt hna ⟨ys, ha, ra.ex0 (Ex0.refl.more _)⟩) (.ref ?_))
    rw [← hr2.len, List.getElem?_append_right (Nat.le_refl _)]; simp
instance : IsNL frzL where
  at' := fun {K g ε α1 α2 H1 H2 h as ys acc Q R} w hq x2 hr2 ra ha hna hacc => by
    refine .inr ⟨acc, _, rfl, ha, trivial, fun o => ?_⟩
    have soft : Soft H2 acc := .inr ⟨_, ha, fun _ z => (nomatch z), fun _ _ z => nomatch z⟩
    have x6 : Ex0 K α2 H2 α2 (upd H2 acc (.frz o (.lst ys))) := Ex0.upd soft
    refine hq _ _ w _ _ α2 ⟨x2.toEx0.trans x6, fun p u z n => ?_, x2.new⟩ (hr2.off soft hna) (.frl ⟨o, upd_same⟩ (ra.ex0 x6))
    rw [upd_ne (ne_of_none z hacc)]; exact x2.keep p u z n
theorem NL.post {nl : NL} [IsNL nl] {K : PySem.W.Frag} {g : GG} {ε : EE} {α : List Addr} {H : Hp} {h : Hh} {ds : List D} {vs : List V} {Q : VK} {p : Addr} (w : WQ K g ε α H (nl ds h) (Post K g α H Q)) (r : HRel K g α H h) (rd : RelDs K g α H ds vs) (n : H p = none) : FrzP Q (.ref p) (upd H p (.lst vs)) :=
  IsNL.at' w (fun _ _ z => z) (Ext.fresh n) (r.grow n) (rd.ext (Ext.fresh n)) upd_same (r.free n) n
noncomputable def dLst (nl : NL) : List D → Hh → R D := fun ds h => if ds.length ≤ 1000000 then nl ds h else .bad
theorem se_lst {X : Cx} {g : GG} {ε : EE} {es : List Expr} {mr : MA} {pos : Pos} {nl : NL} [IsNL nl] (ha : PA X es (tMA X.K g ε mr)) : PE X (.List es pos) (tM X.K g ε (cCall (dLst nl) mr)) :=
  PE.imp (PE.frz (pe_lst ha)) fun σ H Q ⟨α, env, h, s, w⟩ => tMA.use s w.bind fun d1 h1 v1 H1 α1 e1 s1 r1 w1 => by
    obtain ⟨hl, w2⟩ := WQ.iteP w1
    exact ⟨line_of (by rw [← r1.length]; exact hl), fun p hp => NL.post (w2.post e1) s1.heap r1 hp⟩
noncomputable def lstOf (h : Hh) (n : Nat) : Option (List D) := match h[n]? with
  | some (.lst ds) => some ds
  | _ => none
inductive Src where
  | snap (ds : List D)
  | live (n : Nat)
  | liveE (n : Nat)
noncomputable abbrev MI := En → Hh → R Src
noncomputable abbrev Rdr := Hh → Nat → Option (Option D)
noncomputable def Src.rdr : Src → Rdr
  | .snap ds => fun _ i => some ds[i]?
  | .live n => fun h i => (lstOf h n).map fun ds => ds[i]?
  | .liveE n => fun h i => (lstOf h n).map fun ds => (ds[i]?).map fun d => D.tup [.int i, d]
noncomputable def Src.fuel (s : Src) (h : Hh) : Nat := match s with
  | .snap ds => ds.length
  | .live n => ((lstOf h n).getD []).length
  | .liveE n => ((lstOf h n).getD []).length
noncomputable def Reads (K : PySem.W.Frag) (g : GG) (J : It) (rd : Rdr) (α₀ : List Addr) (H₀ : Hp) : Prop :=
  ∀ (α : List Addr) (H : Hp) (h : Hh), Ext K α₀ H₀ α H → HRel K g α H h → ∀ i, match rd h i with
    | none => True
    | some none => J.stop i H
    | some (some d) => J.go i H ∧ ∀ x H', J.yld i H x H' → ∃ α', Ext K α H α' H' ∧ HRel K g α' H' h ∧ RelD K g α' H' d x
noncomputable def tMI (K : PySem.W.Frag) (g : GG) (ε : EE) (m : MI) : TI := fun σ H T => ∃ α env h, SRel K g α H env σ h ∧ WQ K g ε α H (m env h) fun sr h' => ∀ J H' α', Ext K α H α' H' → HRel K g α' H' h' → Reads K g J sr.rdr α' H' → T J H'
theorem PI.imp {X : Cx} {tg e : Expr} {t t' : TI} (h : PI X tg e t) (i : ∀ σ H Q, t' σ H Q → t σ H Q) : PI X tg e t' := fun pins s σ H Q I w => h pins s σ H Q I (i σ H Q w)
noncomputable def forG (rd : Rdr) (tg : D → En → Hh → R En) (body : MS) : Nat → Nat → En → Hh → R Fl
  | k, i, env, h => match rd h i with
    | none => .bad
    | some none => .ok (.nx env) h
    | some (some d) => match k with
      | 0 => .bad
      | k + 1 => (tg d env h).bind fun e1 h1 => (body e1 h1).bind fun fl h2 => match fl with
        | .nx e => forG rd tg body k (i + 1) e h2
        | .ct e => forG rd tg body k (i + 1) e h2
        | .bk e => .ok (.nx e) h2
        | .rt d => .ok (.rt d) h2
noncomputable def forS (tg : D → En → Hh → R En) (body : MS) : List D → En → Hh → R Fl
  | [], env, h => .ok (.nx env) h
  | d :: ds, env, h => (tg d env h).bind fun e1 h1 => (body e1 h1).bind fun fl h2 => match fl with
    | .nx e => forS tg body ds e h2
    | .ct e => forS tg body ds e h2
    | .bk e => .ok (.nx e) h2
    | .rt d => .ok (.rt d) h2
theorem forS_eq (tg : D → En → Hh → R En) (body : MS) (all : List D) : ∀ (ds : List D) (i : Nat) (env : En) (h : Hh), all.drop i = ds → forG (Src.snap all).rdr tg body ds.length i env h = forS tg body ds env h := by
  intro ds
  induction ds with
  | nil =>
    intro i env h e
    have : all[i]? = none := by
      have := congrArg List.length e
      simp at this
      exact List.getElem?_eq_none (by omega)
    unfold forG forS Src.rdr
    simp [this]
  | cons d ds ih =>
    intro i env h e
    have h0 : all[i]? = some d := by
      have := congrArg (fun l => l[0]?) e
      simpa using this
    have h1 : all.drop (i + 1) = ds := by
      have := congrArg List.tail e
      simpa using this
    unfold forG forS
    have : (Src.snap all).rdr h i = some (some d) := by unfold Src.rdr; simp [h0]
    rw [this]
    show ((tg d env h).bind _) = _
    congr 1
    funext e1 h2
    congr 1
    funext fl h3
    cases fl with
    | nx e => exact ih (i + 1) e h3 h1
    | ct e => exact ih (i + 1) e h3 h1
    | bk e => rfl
    | rt d => rfl
noncomputable def cFor (mi : MI) (tg : D → En → Hh → R En) (body : MS) : MS := fun env h => (mi env h).bind fun sr h1 => match sr with
  | .snap ds => forS tg body ds env h1
  | .live n => forG (Src.live n).rdr tg body ((lstOf h1 n).getD []).length 0 env h1
  | .liveE n => forG (Src.liveE n).rdr tg body ((lstOf h1 n).getD []).length 0 env h1
theorem cFor_eq {mi : MI} {tg : D → En → Hh → R En} {body : MS} {env : En} {h : Hh} : cFor mi tg body env h = (mi env h).bind fun sr h1 => forG sr.rdr tg body (sr.fuel h1) 0 env h1 := by
  unfold cFor
  congr 1
  funext sr h1
  cases sr with
  | snap ds => exact (forS_eq tg body ds ds 0 env h1 rfl).symm
  | live n => rfl
  | liveE n => rfl
noncomputable def gN (i : Nat) : D → En → Hh → R En := fun d env h => .ok (env.set i (some d)) h
noncomputable def gT2 (i j : Nat) : D → En → Hh → R En := fun d env h => match d with
  | .tup [x, y] => .ok ((env.set i (some x)).set j (some y)) h
  | _ => .bad
noncomputable def ImpG (K : PySem.W.Frag) (g : GG) (ε : EE) (tg : D → En → Hh → R En) (t : TG) : Prop :=
  ∀ (α : List Addr) (H : Hp) (h : Hh) (env : En) (σ : St) (d : D) (x : V) (Q : St → Hp → Prop), SRel K g α H env σ h → RelD K g α H d x →
    WQ K g ε α H (tg d env h) (fun e1 h1 => ∀ σ' H' α', Ext K α H α' H' → SRel K g α' H' e1 σ' h1 → Q σ' H') → t x σ H Q
theorem ig_name {K : PySem.W.Frag} {g : GG} {ε : EE} {i : Nat} : ImpG K g ε (gN i) (gName i) := fun α H h env σ d x Q s r w => w _ H α Ext.refl ⟨s.heap, s.vs.set r⟩
theorem ig_two {K : PySem.W.Frag} {g : GG} {ε : EE} {i j : Nat} : ImpG K g ε (gT2 i j) (gTup K 2 (gCons (gName i) (gCons (gName j) gNil))) := fun α H h env σ d x Q s r w => by
  unfold gT2 at w
  cases r with
  | tup hq rs =>
    cases rs with
    | nil => exact w.elim
    | cons ra rr =>
      cases rr with
      | nil => exact w.elim
      | cons rb rr =>
        cases rr with
        | nil => exact ⟨_, _, rfl, SqT.of hq, rfl, _, _, rfl, _, _, rfl, rfl, w _ H α Ext.refl ⟨s.heap, (s.vs.set ra).set rb⟩⟩
        | cons _ _ => exact w.elim
  | _ => exact w.elim
section
variable {X : Cx} {g : GG} {ε : EE}
theorem s_for {tg iter : Expr} {body : List Stmt} {mi : MI} {t : TG} {fg : D → En → Hh → R En} {mb : MS} {pos : Pos} (hp : PassesOwn (model X.prog X.w) X.A X.env X.xe) (hc : X.calm = true) (hi : PI X tg iter (tMI X.K g ε mi)) (hg : PG X tg t) (ig : ImpG X.K g ε fg t) (hb : PSs X body (tMS X.K g ε mb))
    (hs : ∀ x, foldedSetIterable iter X.env x = pure x := by intro _; rfl) : PS X (.For tg iter body [] pos) (tMS X.K g ε (cFor mi fg mb)) := by
  refine PS.imp (ps_for hp hc hi hg hb hs) fun E σ H ⟨α, env, h, s, w⟩ => ?_
  rw [cFor_eq] at w
  refine ⟨α, env, h, s, w.bind.mono fun sr h1 _ w1 J H1 α1 e1 hr1 rd => ?_⟩
  refine ⟨fun i m σ H => ∃ α env h, Ext X.K α1 H1 α H ∧ SRel X.K g α H env σ h ∧ WQ X.K g ε α H (forG sr.rdr fg mb m i env h) (PostS X.K g α H E), ⟨sr.fuel h1, α1, env, h1, Ext.refl, s.ext e1 hr1, w1.postS e1⟩, ?_⟩
  rintro i m σ2 H2 ⟨α2, env2, h2, x2, s2, w2⟩
  have q := rd α2 H2 h2 x2 s2.heap i
  unfold forG at w2
  cases e : sr.rdr h2 i with
  | none => rw [e] at w2; exact w2.elim
  | some od =>
    rw [e] at w2 q
    cases od with
    | none => exact .inl ⟨q, s2.nx Ext.refl w2⟩
    | some d =>
      cases m with
      | zero => exact w2.elim
      | succ m =>
        have w3 := WQ.bind (show WQ X.K g ε α2 H2 ((fg d env2 h2).bind _) _ from w2)
        refine .inr ⟨q.1, fun σ' H' => ∃ α env h, Ext X.K α1 H1 α H' ∧ SRel X.K g α H' env σ' h ∧ WQ X.K g ε α H' (forG sr.rdr fg mb m (i + 1) env h) (PostS X.K g α H' E), fun σ' H' z => ⟨m, Nat.lt_succ_self _, z⟩, fun x H3 y => ?_⟩
        obtain ⟨α3, x3, hr3, rx⟩ := q.2 x H3 y
        refine ig α3 H3 h2 env2 σ2 d x _ (s2.ext x3 hr3) rx ((w3.ext x3).mono fun e4 h4 _ w4 σ4 H4 α4 x4 s4 => ?_)
        refine tMS.use s4 ((w4.ext x3).ext x4).bind fun fl h5 H5 α5 x5 hr5 w5 => ?_
        have tr : Ext X.K α2 H2 α5 H5 := x3.trans (x4.trans x5)
        cases fl with
        | nx e => exact fun σ' s' => ⟨α5, e, h5, x2.trans tr, s', ((w5.ext x5)).mono fun _ _ _ p => p.ext tr⟩
        | ct e => exact fun σ' s' => ⟨α5, e, h5, x2.trans tr, s', ((w5.ext x5)).mono fun _ _ _ p => p.ext tr⟩
        | bk e => exact fun σ' s' => (show PostS X.K g α2 H2 E (.nx e) h5 from w5) H5 α5 tr hr5 σ' s'.vs
        | rt d => exact fun v rv => (show PostS X.K g α2 H2 E (.rt d) h5 from w5) H5 α5 tr hr5 v rv
theorem HRel.lst {K : PySem.W.Frag} {α : List Addr} {H : Hp} {h : Hh} {n : Nat} {ds : List D} (r : HRel K g α H h) (e : lstOf h n = some ds) {p : Addr} (hp : α[n]? = some p) : ∃ vs, H p = some (.lst vs) ∧ RelDs K g α H ds vs := by
  unfold lstOf at e
  cases o : h[n]? with
  | none => rw [o] at e; cases e
  | some o' =>
    rw [o] at e
    have q := r.here n p o' hp o
    cases o' with
    | lst ds' => cases e; obtain ⟨vs, a, b⟩ := q; exact ⟨vs, a, b⟩
    | set n => cases e
    | dic k => cases e
    | dit k => cases e
noncomputable def seqI : D → Hh → R Src
  | .tup ds, h => .ok (.snap ds) h
  | .frl ds, h => .ok (.snap ds) h
  | .scr ds, h => .ok (.snap ds) h
  | .ref n, h => match lstOf h n with
    | some _ => .ok (.live n) h
    | none => .bad
  | _, _ => .bad
noncomputable def cSeqI (a : ME) : MI := fun env h => (a env h).bind seqI
noncomputable def iSeq (K : PySem.W.Frag) (tl : TE) : TI := fun σ H R => tl σ H fun x H1 => ∃ a, x = .ref a ∧ (((∃ xs, SqL K H1 a xs) ∧ R (Itl K a) H1) ∨ ((∃ xs, SqT K H1 a xs) ∧ R (Itt K a) H1))
theorem pi_seq {tg l : Expr} {tl : TE} (hl : PE X l tl) : PI X tg l (iSeq X.K tl) := by
  intro pins s σ H R I h
  refine thn (hl pins s σ H _ I h) fun v s1 ⟨x, H1, I1, r1, q1⟩ => ?_
  obtain ⟨a, e, q⟩ := q1
  subst e
  cases r1
  rcases q with ⟨⟨xs, hq⟩, q⟩ | ⟨⟨xs, hq⟩, q⟩
  · obtain ⟨its, rv, p, hz⟩ := I1.list hq
    refine wpAny_pyIter_list p.isList ?_
    refine ⟨s1.heap.objs.size, [s1.heap.objs.size], _, _, H1, rfl, I1.kept (t' := s1.toks) fun b o e => Heap.get?_push_of_some _ e, turn_list a _, ⟨_, Heap.get?_push_size _ rfl, rfl, rfl⟩, fun b hb => ?_, q⟩
    have e : b = s1.heap.objs.size := by simpa using hb
    subst e
    exact I1.fpOk (Nat.le_refl _) (I1.hok.fresh (Nat.le_refl _))
  · obtain ⟨its, rv, p, hz⟩ := I1.tuple hq
    refine wpAny_pyIter_tuple (show s1.heap.IsTuple a its.toArray from p) ?_
    refine ⟨s1.heap.objs.size, [s1.heap.objs.size], _, _, H1, rfl, I1.kept (t' := s1.toks) fun b o e => Heap.get?_push_of_some _ e, turn_tuple a _, ⟨_, Heap.get?_push_size _ rfl, rfl, rfl⟩, fun b hb => ?_, q⟩
    have e : b = s1.heap.objs.size := by simpa using hb
    subst e
    exact I1.fpOk (Nat.le_refl _) (I1.hok.fresh (Nat.le_refl _))
theorem reads_tup {K : PySem.W.Frag} {α : List Addr} {H : Hp} {a : Addr} {ds : List D} {vs : List V} (hq' : H a = some (.tup vs)) (rs : RelDs K g α H ds vs) : Reads K g (Itt K a) (Src.snap ds).rdr α H := by
  intro α2 H2 h2 x2 hr i
  have hq2 : SqT K H2 a vs := SqT.of (x2.tup _ _ hq')
  have rs2 := rs.ext x2
  show match some ds[i]? with | none => True | some none => _ | some (some d) => _
  cases e : ds[i]? with
  | none =>
    have : ds.length ≤ i := List.getElem?_eq_none_iff.mp e
    exact ⟨vs, hq2, by rw [← rs.length]; exact this⟩
  | some d =>
    obtain ⟨v, ev, rv⟩ := rs2.get e
    refine ⟨⟨vs, v, hq2, ev⟩, fun x H' y => ?_⟩
    obtain ⟨e1, e2⟩ := y
    subst e1
    have := e2 vs hq2
    rw [ev] at this
    cases this
    exact ⟨α2, Ext.refl, hr, rv⟩
theorem reads_frl {K : PySem.W.Frag} {α : List Addr} {H : Hp} {a : Addr} {ds : List D} {vs : List V} (hq : Fro K H a vs) (rs : RelDs K g α H ds vs) : Reads K g (Itl K a) (Src.snap ds).rdr α H := by
  intro α2 H2 h2 x2 hr i
  have hq2 := x2.fro _ _ hq
  have rs2 := rs.ext x2
  show match some ds[i]? with | none => True | some none => _ | some (some d) => _
  cases e : ds[i]? with
  | none =>
    have : ds.length ≤ i := List.getElem?_eq_none_iff.mp e
    exact ⟨vs, hq2.sq, by rw [← rs.length]; exact this⟩
  | some d =>
    obtain ⟨v, ev, rv⟩ := rs2.get e
    refine ⟨⟨vs, v, hq2.sq, ev⟩, fun x H' y => ?_⟩
    obtain ⟨e1, e2⟩ := y
    subst e1
    have := e2 vs hq2.sq
    rw [ev] at this
    cases this
    exact ⟨α2, Ext.refl, hr, rv⟩
theorem reads_lst {K : PySem.W.Frag} {α : List Addr} {H : Hp} {a : Addr} {n : Nat} (ha : α[n]? = some a) : Reads K g (Itl K a) (Src.live n).rdr α H := by
  intro α2 H2 h2 x2 hr i
  show match (lstOf h2 n).map fun ds => ds[i]? with | none => True | some none => _ | some (some d) => _
  cases e : lstOf h2 n with
  | none => trivial
  | some ds =>
    obtain ⟨vs, hq', rs⟩ := hr.lst e (x2.get ha)
    have hq : SqL K H2 a vs := SqL.of hq'
    show match some ds[i]? with | none => True | some none => _ | some (some d) => _
    cases ei : ds[i]? with
    | none =>
      have : ds.length ≤ i := List.getElem?_eq_none_iff.mp ei
      exact ⟨vs, hq, by rw [← rs.length]; exact this⟩
    | some d =>
      obtain ⟨v, ev, rv⟩ := rs.get ei
      refine ⟨⟨vs, v, hq, ev⟩, fun x H' y => ?_⟩
      obtain ⟨e1, e2⟩ := y
      subst e1
      have := e2 vs hq
      rw [ev] at this
      cases this
      exact ⟨α2, Ext.refl, hr, rv⟩
theorem si_seq {tg e : Expr} {me : ME} (he : PE X e (tM X.K g ε me)) : PI X tg e (tMI X.K g ε (cSeqI me)) :=
  PI.imp (pi_seq he) fun σ H T ⟨α, env, h, s, w⟩ => tM.use s w.bind fun d1 h1 v1 H1 α1 e1 s1 r1 w1 => by
    unfold seqI at w1
    cases r1 with
    | tup hq rs => exact ⟨_, rfl, .inr ⟨⟨_, SqT.of hq⟩, w1 _ H1 α1 e1 s1.heap (reads_tup hq rs)⟩⟩
    | frl hq rs => exact ⟨_, rfl, .inl ⟨⟨_, hq.sq⟩, w1 _ H1 α1 e1 s1.heap (reads_frl hq.fro rs)⟩⟩
    | scr hq rs => exact ⟨_, rfl, .inl ⟨⟨_, hq.sq⟩, w1 _ H1 α1 e1 s1.heap (reads_frl hq rs)⟩⟩
    | @ref n p hp =>
      cases el : lstOf h1 n with
      | none => simp only [el] at w1; exact w1.elim
      | some ds =>
        simp only [el] at w1
        obtain ⟨vs, hq, _⟩ := s1.heap.lst el hp
        exact ⟨p, rfl, .inl ⟨⟨_, SqL.of hq⟩, w1 _ H1 α1 e1 s1.heap (reads_lst hp)⟩⟩
    | _ => exact w1.elim
noncomputable def enumD (ds : List D) : List D := (List.range ds.length).map fun (i : Nat) => D.tup [.int i, ds.getD i .non]
noncomputable def enumI : D → Hh → R Src
  | .tup ds, h => .ok (.snap (enumD ds)) h
  | .frl ds, h => .ok (.snap (enumD ds)) h
  | .ref n, h => match lstOf h n with
    | some _ => .ok (.liveE n) h
    | none => .bad
  | _, _ => .bad
noncomputable def cEnumI (a : ME) : MI := fun env h => (a env h).bind enumI
theorem enumD_get {ds : List D} {i : Nat} : (enumD ds)[i]? = (ds[i]?).map fun d => D.tup [.int i, d] := by
  unfold enumD
  rw [List.getElem?_map]
  by_cases hi : i < ds.length
  · have e : ds.getD i .non = ds[i] := by rw [List.getD_eq_getElem?_getD, List.getElem?_eq_getElem hi]; rfl
    rw [List.getElem?_range hi, List.getElem?_eq_getElem hi, Option.map_some, Option.map_some, e]
  · rw [List.getElem?_eq_none (by simpa using hi), List.getElem?_eq_none (by omega)]; rfl
theorem yld_pair {K : PySem.W.Frag} {α : List Addr} {H : Hp} {h : Hh} {i : Nat} {d : D} {v : V} {p : Addr} (hr : HRel K g α H h) (rv : RelD K g α H d v) (hp : H p = none) :
    ∃ α', Ext K α H α' (upd H p (.tup [.int i, v])) ∧ HRel K g α' (upd H p (.tup [.int i, v])) h ∧ RelD K g α' (upd H p (.tup [.int i, v])) (.tup [.int i, d]) (.ref p) :=
  ⟨α, Ext.fresh hp, hr.grow hp, .tup upd_same (.cons (.int _) (.cons (rv.ext (Ext.fresh hp)) .nil))⟩
theorem reads_enumT {K : PySem.W.Frag} {α : List Addr} {H : Hp} {a : Addr} {ds : List D} {vs : List V} (hq' : H a = some (.tup vs)) (rs : RelDs K g α H ds vs) : Reads K g (Iet K a) (Src.snap (enumD ds)).rdr α H := by
  intro α2 H2 h2 x2 hr i
  have hq2 : SqT K H2 a vs := SqT.of (x2.tup _ _ hq')
  have rs2 := rs.ext x2
  show match some (enumD ds)[i]? with | none => True | some none => _ | some (some d) => _
  rw [enumD_get]
  cases e : ds[i]? with
  | none =>
    have : ds.length ≤ i := List.getElem?_eq_none_iff.mp e
    exact ⟨vs, hq2, by rw [← rs.length]; exact this⟩
  | some d =>
    obtain ⟨v, ev, rv⟩ := rs2.get e
    refine ⟨⟨vs, v, hq2, ev⟩, fun x H' y => ?_⟩
    obtain ⟨p, v', e1, hp, e2, e3⟩ := y
    subst e1 e3
    have := e2 vs hq2
    rw [ev] at this
    cases this
    exact yld_pair hr rv hp
theorem reads_enumF {K : PySem.W.Frag} {α : List Addr} {H : Hp} {a : Addr} {ds : List D} {vs : List V} (hq : Fro K H a vs) (rs : RelDs K g α H ds vs) : Reads K g (Iel K a) (Src.snap (enumD ds)).rdr α H := by
  intro α2 H2 h2 x2 hr i
  have hq2 : SqL K H2 a vs := (x2.fro _ _ hq).sq
  have rs2 := rs.ext x2
  show match some (enumD ds)[i]? with | none => True | some none => _ | some (some d) => _
  rw [enumD_get]
  cases e : ds[i]? with
  | none =>
    have : ds.length ≤ i := List.getElem?_eq_none_iff.mp e
    exact ⟨vs, hq2, by rw [← rs.length]; exact this⟩
  | some d =>
    obtain ⟨v, ev, rv⟩ := rs2.get e
    refine ⟨⟨vs, v, hq2, ev⟩, fun x H' y => ?_⟩
    obtain ⟨p, v', e1, hp, e2, e3⟩ := y
    subst e1 e3
    have := e2 vs hq2
    rw [ev] at this
    cases this
    exact yld_pair hr rv hp
theorem reads_enumL {K : PySem.W.Frag} {α : List Addr} {H : Hp} {a : Addr} {n : Nat} (ha : α[n]? = some a) : Reads K g (Iel K a) (Src.liveE n).rdr α H := by
  intro α2 H2 h2 x2 hr i
  show match (lstOf h2 n).map fun ds => (ds[i]?).map fun d => D.tup [.int i, d] with | none => True | some none => _ | some (some d) => _
  cases e : lstOf h2 n with
  | none => trivial
  | some ds =>
    obtain ⟨vs, hq', rs⟩ := hr.lst e (x2.get ha)
    have hq : SqL K H2 a vs := SqL.of hq'
    show match some ((ds[i]?).map fun d => D.tup [.int i, d]) with | none => True | some none => _ | some (some d) => _
    cases ei : ds[i]? with
    | none =>
      have : ds.length ≤ i := List.getElem?_eq_none_iff.mp ei
      exact ⟨vs, hq, by rw [← rs.length]; exact this⟩
    | some d =>
      obtain ⟨v, ev, rv⟩ := rs.get ei
      refine ⟨⟨vs, v, hq, ev⟩, fun x H' y => ?_⟩
      obtain ⟨p, v', e1, hp, e2, e3⟩ := y
      subst e1 e3
      have := e2 vs hq
      rw [ev] at this
      cases this
      exact yld_pair hr rv hp
theorem si_enum {elts : List Expr} {kt : Nat} {tp p pos : Pos} {e : Expr} {me : ME} (hg : Gl X "enumerate") (hm : X.mg "enumerate" = none) (he : PE X e (tM X.K g ε me)) (hs : starEach [e] X.env = [(false, eval e X.env)] := by rfl) : PI X (.Tuple elts kt tp) (.Call (.Name "enumerate" p) [e] [] pos) (tMI X.K g ε (cEnumI me)) :=
  PI.imp (pi_enum hg hm he hs) fun σ H T ⟨α, env, h, s, w⟩ => tM.use s w.bind fun d1 h1 v1 H1 α1 e1 s1 r1 w1 => by
    unfold enumI at w1
    cases r1 with
    | tup hq rs => exact ⟨_, rfl, .inr ⟨⟨_, SqT.of hq⟩, w1 _ H1 α1 e1 s1.heap (reads_enumT hq rs)⟩⟩
    | frl hq rs => exact ⟨_, rfl, .inl ⟨⟨_, hq.sq⟩, w1 _ H1 α1 e1 s1.heap (reads_enumF hq.fro rs)⟩⟩
    | @ref n p hp =>
      cases el : lstOf h1 n with
      | none => simp only [el] at w1; exact w1.elim
      | some ds =>
        simp only [el] at w1
        obtain ⟨vs, hq, _⟩ := s1.heap.lst el hp
        exact ⟨p, rfl, .inl ⟨⟨_, SqL.of hq⟩, w1 _ H1 α1 e1 s1.heap (reads_enumL hp)⟩⟩
    | _ => exact w1.elim
noncomputable def intsD (lo : Int) (n : Nat) : List D := (List.range n).map fun (i : Nat) => D.int (lo + i)
noncomputable def rng1 : List D → Hh → R Src
  | [.int j], h => if j.natAbs ≤ 1000000 then .ok (.snap (intsD 0 j.toNat)) h else .bad
  | _, _ => .bad
noncomputable def cRng (f : List D → Hh → R Src) (a : MA) : MI := fun env h => (a env h).bind f
theorem reads_rng {K : PySem.W.Frag} {α : List Addr} {H : Hp} {lo : Int} {n : Nat} : Reads K g (Itr lo n) (Src.snap (intsD lo n)).rdr α H := by
  intro α2 H2 h2 x2 hr i
  show match some (intsD lo n)[i]? with | none => True | some none => _ | some (some d) => _
  unfold intsD
  rw [List.getElem?_map]
  by_cases hi : i < n
  · rw [List.getElem?_range hi]
    refine ⟨hi, fun x H' y => ?_⟩
    obtain ⟨e1, e2⟩ := y
    subst e1 e2
    exact ⟨α2, Ext.refl, hr, .int _⟩
  · rw [List.getElem?_eq_none (by simpa using hi)]
    exact Nat.le_of_not_lt hi
theorem si_rng1 {tg a : Expr} {ma : MA} {p pos : Pos} (hg : Gl X "range") (hm : X.mg "range" = none) (ha : PA X [a] (tMA X.K g ε ma)) (hs : starEach [a] X.env = [(false, eval a X.env)] := by rfl) : PI X tg (.Call (.Name "range" p) [a] [] pos) (tMI X.K g ε (cRng rng1 ma)) :=
  PI.imp (pi_range1 hg hm ha hs) fun σ H T ⟨α, env, h, s, w⟩ => tMA.use s w.bind fun d1 h1 v1 H1 α1 e1 s1 r1 w1 => by
    unfold rng1 at w1
    cases r1 with
    | nil => exact w1.elim
    | cons ra rr =>
      cases rr with
      | cons _ _ => cases ra <;> exact w1.elim
      | nil =>
        cases ra with
        | int j =>
          obtain ⟨hj, w2⟩ := WQ.iteP w1
          exact ⟨j, rfl, by omega, by omega, w2 _ H1 α1 e1 s1.heap reads_rng⟩
        | _ => exact w1.elim
end
noncomputable abbrev E00 : EE := fun _ _ _ => False
noncomputable abbrev MF := List D → Hh → R D
noncomputable def cFun (n : Nat) (m : MS) : MF := fun ds h => (m (ds.map some ++ List.replicate (n - ds.length) none) h).bind fun fl h1 => match fl with
  | .rt d => .ok d h1
  | .nx _ => .ok .non h1
  | _ => .bad
noncomputable def spG (K : PySem.W.Frag) (g : GG) (ε : XK → EE) (np : Nat) (m : MF) : Sp := fun vs H Q E => vs.length = np ∧ ∃ α ds h, RelDs K g α H ds vs ∧ HRel K g α H h ∧ WQ K g (ε E) α H (m ds h) (Post K g α H Q)
noncomputable abbrev spM (K : PySem.W.Frag) (g : GG) (np : Nat) (m : MF) : Sp := spG K g (fun _ => E00) np m
theorem start_rel {K : PySem.W.Frag} {g : GG} {α : List Addr} {H : Hp} {N : List Str} {ds : List D} {vs : List V} (r : RelDs K g α H ds vs) : VRel K g α H (ds.map some ++ List.replicate (N.length - ds.length) none) (start N vs) := by
  have hl := r.length
  refine ⟨by simp [start, hl], fun i d h => ?_⟩
  by_cases hi : i < ds.length
  · rw [List.getElem?_append_left (by simpa using hi), List.getElem?_map] at h
    cases e : ds[i]? with
    | none => rw [e] at h; cases h
    | some d' =>
      rw [e] at h
      cases h
      obtain ⟨v, ev, rv⟩ := r.get e
      refine ⟨v, ?_, rv⟩
      unfold start
      rw [List.getElem?_append_left (by simp; omega), List.getElem?_map, ev]
      rfl
  · rw [List.getElem?_append_right (by simpa using hi), List.getElem?_replicate] at h
    split at h <;> cases h
section
variable {P : Program} {w : World} {K : PySem.W.Frag} {mg : Str → Option Value} {base : Heap} {g : GG}
theorem fn_m {x qual : Str} {st : Stmt} {f : Addr} {fd : FuncData} {N ps : List Str} {k : Nat} {mb : MS} (F : Fun K x qual st f fd) (S : FnScope N ps (defScope st))
    (hb : ∀ (cdv : Value) (A : Around) (outer : List Env) (s : Shared) (H : Hp) (E : XK), Room k (A.deeper (envOfC qual (defScope st) s.heap.objs.size f cdv)) →
      PSs (cxOf CX0 P w K mg base N qual (defScope st) f cdv A outer s H E).nox (defBody st) (tMS K g E00 mb)) : FnOk P w K mg base CX0 (k + 1) f fd ps (spM K g ps.length (cFun N.length mb)) := by
  refine F.ok S (fun vs H Q E h => h.1) fun cdv A outer s H vs Q E hr h => ⟨_, hb cdv A outer s H E hr, ?_⟩
  obtain ⟨hl, α, ds, h, rs, hh, w⟩ := h
  refine tMS.use ⟨hh, start_rel rs⟩ w.bind fun fl h' H' α' e r kk => ?_
  cases fl with
  | nx e' => exact fun σ' s' => (show Post K g α H Q .non h' from kk) _ H' α' e r .non
  | bk e' => exact kk.elim
  | ct e' => exact kk.elim
  | rt d => exact fun v rv => (show Post K g α H Q d h' from kk) _ H' α' e r rv
end
section
variable {X : Cx} {g : GG}
theorem se_call {k : Nat} {f : Addr} {fd : FuncData} {ps : List Str} {m : MF} {np : Nat} {x : Str} {p pos : Pos} {e : Expr} {es : List Expr} {mr : MA} (F : FnOk X.prog X.w X.K X.mg X.base CX0 k f fd ps (spM X.K g np m)) (hr : Room k X.A) (hg : Gl X x) (hm : X.mg x = some (.ref f)) (hk : PySem.W.keepIn X.K (.ref f) = true) (hb : Binds X.K fd ps [])
    (ha : PA X (e :: es) (tMA X.K g E00 mr)) (hlen : ∀ env h ds h', mr env h = .ok ds h' → ds.length = np) (hdb : (x == ("__debug__" : Str)) = false := by decide) (he : starEach (e :: es) X.env = (false, eval e X.env) :: starEach es X.env := by rfl) (hpl : (backTo pos (starEach es X.env)).any (·.1) = false := by rfl) :
    PE X (.Call (.Name x p) (e :: es) [] pos) (tM X.K g E00 (cCall m mr)) :=
  PE.imp (pe_call F hr hg hm hk hb .nil pass0 ha hdb he hpl) fun σ H Q ⟨α, env, h, s, w⟩ => ⟨α, env, h, s, w.bind.mono fun d1 h1 eq w1 v1 H1 α1 e1 hr1 r1 => by
    show spM X.K g np m (v1 ++ []) H1 Q E0
    rw [List.append_nil]
    refine ⟨?_, α1, d1, h1, r1, hr1, w1.post e1⟩
    rw [← r1.length]
    exact hlen env h d1 h1 eq⟩
theorem len_nil : ∀ env h ds h', cNil env h = .ok ds h' → ds.length = 0 := fun env h ds h' e => by cases e; rfl
theorem len_cons {a : ME} {r : MA} {n : Nat} (q : ∀ env h ds h', r env h = .ok ds h' → ds.length = n) : ∀ env h ds h', cCons a r env h = .ok ds h' → ds.length = n + 1 := fun env h ds h' e => by
  unfold cCons at e
  cases e1 : a env h with
  | ok d h1 =>
    rw [e1] at e
    cases e2 : r env h1 with
    | ok ds2 h2 =>
      have e3 : (R.ok (d :: ds2) h2 : R (List D)) = .ok ds h' := by simpa [R.bind, e2] using e
      cases e3
      simp [q env h1 ds2 h' e2]
    | err x h2 => simp [R.bind, e2] at e
    | bad => simp [R.bind, e2] at e
  | err x h2 => rw [e1] at e; cases e
  | bad => rw [e1] at e; cases e
end
noncomputable def capE (ix : List Nat) (env : En) (d : D) : En := some d :: ix.map fun i => (env[i]?).join
noncomputable def tt1 : MT := fun _ h => .ok true h
noncomputable def compG (rd : Rdr) (tt : MT) (te : ME) (ee : D → En) : Nat → Nat → List D → Hh → R (List D)
  | k, i, acc, h => match rd h i with
    | none => .bad
    | some none => .ok acc h
    | some (some d) => match k with
      | 0 => .bad
      | k + 1 => (tt (ee d) h).bind fun b h1 => if b = true then (te (ee d) h1).bind fun y h2 => compG rd tt te ee k (i + 1) (acc ++ [y]) h2 else compG rd tt te ee k (i + 1) acc h1
noncomputable def compS (tt : MT) (te : ME) (ee : D → En) : List D → Hh → R (List D)
  | [], h => .ok [] h
  | d :: ds, h => (tt (ee d) h).bind fun b h1 => if b = true then (te (ee d) h1).bind fun y h2 => (compS tt te ee ds h2).bind fun ys h3 => .ok (y :: ys) h3 else compS tt te ee ds h1
theorem bind_bind {β γ δ : Type} (r : R β) (f : β → Hh → R γ) (k : γ → Hh → R δ) : (r.bind f).bind k = r.bind fun b h => (f b h).bind k := by cases r <;> rfl
theorem compS_eq (tt : MT) (te : ME) (ee : D → En) (all : List D) : ∀ (ds : List D) (i : Nat) (acc : List D) (h : Hh), all.drop i = ds → compG (Src.snap all).rdr tt te ee ds.length i acc h = (compS tt te ee ds h).bind fun ys h' => .ok (acc ++ ys) h' := by
  intro ds
  induction ds with
  | nil =>
    intro i acc h e
    have : all[i]? = none := by
      have := congrArg List.length e
      simp at this
      exact List.getElem?_eq_none (by omega)
    unfold compG compS Src.rdr
    simp [this, R.bind]
  | cons d ds ih =>
    intro i acc h e
    have h0 : all[i]? = some d := by
      have := congrArg (fun l => l[0]?) e
      simpa using this
    have h1 : all.drop (i + 1) = ds := by
      have := congrArg List.tail e
      simpa using this
    unfold compG compS
    have : (Src.snap all).rdr h i = some (some d) := by unfold Src.rdr; simp [h0]
    rw [this]
    show ((tt (ee d) h).bind _) = _
    rw [bind_bind]
    congr 1
    funext b h2
    cases b with
    | false => rw [if_neg Bool.false_ne_true, if_neg Bool.false_ne_true]; exact ih (i + 1) acc h2 h1
    | true =>
      rw [if_pos rfl, if_pos rfl, bind_bind]
      congr 1
      funext y h3
      rw [bind_bind]
      have := ih (i + 1) (acc ++ [y]) h3 h1
      rw [this]
      congr 1
      funext ys h4
      show R.ok (acc ++ [y] ++ ys) h4 = R.ok (acc ++ (y :: ys)) h4
      simp
noncomputable def cComp (nl : NL) (mi : MI) (ix : List Nat) (tt : MT) (te : ME) : ME := fun env h => (mi env h).bind fun sr h1 => if sr.fuel h1 ≤ 1000000 then
  (match sr with
    | .snap ds => compS tt te (capE ix env) ds h1
    | .live n => compG (Src.live n).rdr tt te (capE ix env) ((lstOf h1 n).getD []).length 0 [] h1
    | .liveE n => compG (Src.liveE n).rdr tt te (capE ix env) ((lstOf h1 n).getD []).length 0 [] h1).bind nl else .bad
theorem cComp_eq {nl : NL} {mi : MI} {ix : List Nat} {tt : MT} {te : ME} {env : En} {h : Hh} : cComp nl mi ix tt te env h = (mi env h).bind fun sr h1 => if sr.fuel h1 ≤ 1000000 then (compG sr.rdr tt te (capE ix env) (sr.fuel h1) 0 [] h1).bind nl else .bad := by
  unfold cComp
  congr 1
  funext sr h1
  cases sr with
  | snap ds =>
    have := compS_eq tt te (capE ix env) ds ds 0 [] h1 rfl
    simp only [List.nil_append] at this
    have e : (Src.snap ds).fuel h1 = ds.length := rfl
    rw [e, this, bind_bind]
    rfl
  | live n => rfl
  | liveE n => rfl
theorem cap_rel {K : PySem.W.Frag} {g : GG} {α : List Addr} {H : Hp} {env : En} {σ : St} {ix : List Nat} {d : D} {v : V} (s : VRel K g α H env σ) (r : RelD K g α H d v) : VRel K g α H (capE ix env d) ((capσ ix σ).set 0 (some v)) := by
  refine ⟨by simp [capE, capσ], fun i e h => ?_⟩
  cases i with
  | zero =>
    have : d = e := by simpa [capE] using h
    subst this
    exact ⟨v, by simp [capσ], r⟩
  | succ i =>
    have h' : (ix.map fun i => (env[i]?).join)[i]? = some (some e) := by simpa [capE] using h
    rw [List.getElem?_map] at h'
    cases ei : ix[i]? with
    | none => rw [ei] at h'; cases h'
    | some j =>
      rw [ei] at h'
      have h2 : (env[j]?).join = some e := by simpa using h'
      cases ej : env[j]? with
      | none => rw [ej] at h2; cases h2
      | some oe =>
        rw [ej] at h2
        have h3 : oe = some e := by simpa using h2
        subst h3
        obtain ⟨u, eu, ru⟩ := s.vars j e ej
        refine ⟨u, ?_, ru⟩
        simp only [capσ, List.set_cons_zero, List.getElem?_cons_succ, List.getElem?_map, ei, Option.map_some, eu]
        rfl
section
variable {X : Cx} {g : GG}
theorem ts_nil : PTs X [] (tMT X.K g E00 tt1) := fun pins s σ H Q I ⟨α, env, h, s', w⟩ => pts_nil pins s σ H Q I (w H α Ext.refl s'.heap)
theorem ts_one {c : Expr} {mt : MT} (h : PT X c (tMT X.K g E00 mt)) : PTs X [c] (tMT X.K g E00 mt) := pts_one h
theorem tComp_of {K : PySem.W.Frag} {nl : NL} [IsNL nl] {mi : MI} {tt : MT} {te : ME} {ix : List Nat} {σ : St} {H : Hp} {Q R : VK} (hR : ∀ v H, FrzP Q v H → R v H) (t : tM K g E00 (cComp nl mi ix tt te) σ H Q) : tComp (tMI K g E00 mi) ix (tMT K g E00 tt) (tM K g E00 te) σ H R := by
  obtain ⟨α, env, h, s, w⟩ := t
  rw [cComp_eq] at w
  refine ⟨α, env, h, s, w.bind.mono fun sr h1 _ w1 J H1 α1 e1 hr1 rd => fun acc hacc => ?_⟩
  obtain ⟨hf, w1⟩ := WQ.iteP w1
  have s1 := s.ext e1 hr1
  refine ⟨fun i m ys H => ∃ α h as, Ext K α1 H1 α H ∧ HRel K g α H h ∧ RelDs K g α H as ys ∧ H acc = some (.lst ys) ∧ acc ∉ α ∧ as.length + m ≤ 1000000 ∧
    WQ K g E00 α1 H1 ((compG sr.rdr tt te (capE ix env) m i as h).bind nl) (Post K g α1 H1 Q),
    ⟨sr.fuel h1, α1, h1, [], Ext.fresh hacc, hr1.grow hacc, .nil, upd_same, hr1.free hacc, by simpa using hf, w1.post e1⟩, ?_⟩
  rintro i m ys H2 ⟨α2, h2, as, x2, hr2, ra, ha, hna, hm, w2⟩
  have q := rd α2 H2 h2 x2 hr2 i
  unfold compG at w2
  cases e : sr.rdr h2 i with
  | none => rw [e] at w2; exact w2.elim
  | some od =>
    rw [e] at w2 q
    cases od with
    | none =>
      refine .inl ⟨q, ?_⟩
      exact hR _ _ <| IsNL.at' (show WQ K g E00 α1 H1 (nl as h2) _ from w2) (fun _ _ z => z) x2 hr2 ra ha hna hacc
    | some d =>
      cases m with
      | zero => exact w2.elim
      | succ m =>
        rw [bind_bind] at w2
        have w3 := WQ.bind (show WQ K g E00 α1 H1 ((tt (capE ix env d) h2).bind _) _ from w2)
        refine .inr ⟨q.1, fun x H3 y => ?_⟩
        obtain ⟨α3, x3, hr3, rx⟩ := q.2 x H3 y
        have ha3 := x3.keep _ _ ha hna
        have hna3 : acc ∉ α3 := fun z => by have := x3.new _ z hna; rw [ha] at this; cases this
        have s3 : SRel K g α3 H3 (capE ix env d) ((capσ ix σ).set 0 (some x)) h2 := ⟨hr3, cap_rel (s1.vs.ext (x2.trans x3)) rx⟩
        refine tMT.use s3 ((w3.ext x2).ext x3) fun b h4 H4 α4 x4 s4 w4 => ?_
        have ha4 := x4.keep _ _ ha3 hna3
        have hna4 : acc ∉ α4 := fun z => by have := x4.new _ z hna3; rw [ha3] at this; cases this
        cases b with
        | false =>
          rw [if_neg Bool.false_ne_true] at w4 ⊢
          exact ⟨m, Nat.lt_succ_self _, α4, h4, as, x2.trans (x3.trans x4), s4.heap, ra.ext (x3.trans x4), ha4, hna4, by omega, w4⟩
        | true =>
          rw [if_pos rfl] at w4 ⊢
          rw [bind_bind] at w4
          refine tM.use s4 (((WQ.bind w4).ext x2).ext (x3.trans x4)) fun y h5 v5 H5 α5 x5 s5 r5 w5 => ?_
          have ha5 := x5.keep _ _ ha4 hna4
          have hna5 : acc ∉ α5 := fun z => by have := x5.new _ z hna4; rw [ha4] at this; cases this
          have soft : Soft H5 acc := .inr ⟨_, ha5, fun _ z => (nomatch z), fun _ _ z => nomatch z⟩
          have x6 : Ex0 K α5 H5 α5 (upd H5 acc (.lst (ys ++ [v5]))) := Ex0.upd soft
          have tr := x2.trans (x3.trans (x4.trans x5))
          refine ⟨ha5, ?_, m, Nat.lt_succ_self _, α5, h5, as ++ [y], ⟨tr.toEx0.trans x6, fun p o z n => ?_, tr.new⟩, s5.heap.off soft hna5, ((ra.ext (x3.trans (x4.trans x5))).append (.cons r5 .nil)).ex0 x6, upd_same, hna5, by rw [List.length_append]; simp; omega, w5⟩
          · rw [← ra.length, sizeLine_eq]; omega
          · rw [upd_ne (ne_of_none z hacc)]; exact tr.keep p o z n
theorem se_comp {nl : NL} [IsNL nl] {elt iter : Expr} {x : Str} {px : Pos} {ifs : List Expr} {scope osc : Scope} {pos : Pos} {mi : MI} {tt : MT} {te : ME} (ix : List Nat) (N' : List Str)
    (hxe : X.xe = fun _ _ => False) (hc : X.calm = true) (ho : X.env.scope = osc) (hN : N' = x :: ix.map fun i => (X.N[i]?).getD x) (hnd : N'.Nodup)
    (hall : (∀ y ∈ scope.names, y.2 = .free → osc.names.lookup y.1 = some .cell) ∧ (∀ y ∈ scope.names, y.2 ≠ .cell) ∧ scope.kind = .function ∧ (∀ y ∈ scope.names, y.2 = .local → scope.names.lookup y.1 = some .local) ∧ scope.names.lookup x = some .local ∧ (∀ y ∈ N'.tail, scope.names.lookup y = some .free))
    (hi : PI X (.Name x px) iter (tMI X.K g E00 mi))
    (ht : ∀ cl C s₀ H₀ fp, PTs (cxComp X scope cl C s₀ H₀ fp N') ifs (tMT X.K g E00 tt))
    (he : ∀ cl C s₀ H₀ fp, PE (cxComp X scope cl C s₀ H₀ fp N') elt (tM X.K g E00 te))
    (hs : ∀ x, foldedSetIterable iter X.env x = pure x := by intro _; rfl) :
    PE X (.ListComp elt [⟨.Name x px, iter, ifs, 0⟩] scope pos) (tM X.K g E00 (cComp nl mi ix tt te)) := by
  exact PE.imp (PE.frz (pe_comp ix N' hxe hc ho hN hnd hall hi ht he hs)) fun σ H Q t => tComp_of (fun _ _ z => z) t
end
end L2.FE
namespace L2.FE
open PySem PySem.Spec PyProof.Rows
noncomputable def sml (i : Int) : Bool := decide (i.natAbs < 2 ^ 1900)
theorem sml_bits {i : Int} (h : sml i = true) : Builtin.Int.intBits i ≤ 1900 := by
  have h' : i.natAbs < 2 ^ 1900 := of_decide_eq_true h
  unfold Builtin.Int.intBits
  split
  · omega
  · rename_i z
    have z' : i.natAbs ≠ 0 := by
      intro q
      apply z
      have : i = 0 := Int.natAbs_eq_zero.mp q
      rw [this]; rfl
    have := (Nat.log2_lt z').mpr h'
    omega
theorem sml_log {i : Int} (h : sml i = true) : i.natAbs.log2 < 1900 := by
  have h' : i.natAbs < 2 ^ 1900 := of_decide_eq_true h
  by_cases z : i.natAbs = 0
  · rw [z]; decide
  · exact (Nat.log2_lt z).mpr h'
theorem sml_of {i : Int} (h : i.natAbs ≤ 10 ^ 560) : sml i = true := by
  refine decide_eq_true (Nat.lt_of_le_of_lt h (by decide +kernel))
section
variable {X : Cx} {K : PySem.W.Frag} {g : GG} {ε : EE}
theorem OpR.or {f : Value → Value → Sem Value} {r r' : R2} (h : OpR X f r) (h' : OpR X f r') : OpR X f (fun x y H Q => r x y H Q ∨ r' x y H Q) := fun pins s σ H x y v u Q I rx ry q => q.elim (h pins s σ H x y v u Q I rx ry) (h' pins s σ H x y v u Q I rx ry)
noncomputable def lsOf (d : D) (h : Hh) : Option (List D) := match d with
  | .frl ds => some ds
  | .ref n => lstOf h n
  | _ => none
theorem ls_rel {α : List Addr} {H : Hp} {h : Hh} {d : D} {x : V} {ds : List D} (r : HRel K g α H h) (rd : RelD K g α H d x) (e : lsOf d h = some ds) : ∃ p vs, x = .ref p ∧ Rd H p (.lst vs) ∧ RelDs K g α H ds vs := by
  unfold lsOf at e
  cases rd with
  | frl hq rs => cases e; exact ⟨_, _, rfl, hq.rd, rs⟩
  | ref hp => obtain ⟨vs, hv, rs⟩ := r.lst e hp; exact ⟨_, vs, rfl, .inl hv, rs⟩
  | _ => cases e
noncomputable def rCatR : R2 := fun x y H Q => ∃ l b xs zs, x = .ref l ∧ y = .ref b ∧ Rd H l (.lst xs) ∧ Rd H b (.lst zs) ∧ xs.length + zs.length ≤ sizeLine ∧ ∀ p, H p = none → Q (.ref p) (upd H p (.lst (xs ++ zs)))
theorem lstR {X : Cx} {pins : List (Addr × Obj)} {σ : St} {H : Hp} {s : Shared} {l : Addr} {xs : List V} (I : Inv X pins σ H s) (h : Rd H l (.lst xs)) : ∃ (its : List Value) (n : Nat), xs.length ≤ sizeLine ∧ Vals xs its ∧ xs.length = its.length ∧ s.heap.get? l = some { cls := .type "list", data := .seq its.toArray n } := by
  obtain ⟨z, its, n, r, e⟩ := h.ok I.hok
  exact ⟨its, n, z, r, r.length, e⟩
theorem op_catR : OpR X (binaryOp .Add) rCatR := by
  intro pins s σ H x y v u Q I rx ry h
  obtain ⟨l, b, xs, zs, rfl, rfl, hH, hB, hz, q⟩ := h
  cases rx
  cases ry
  obtain ⟨its, n, z, r, hl, e⟩ := lstR I hH
  obtain ⟨its2, n2, z2, r2, hl2, e2⟩ := lstR I hB
  refine PySem.P.add_list e e2 ?_ (by rw [List.size_toArray, List.size_toArray]; omega)
  have ea : its.toArray ++ its2.toArray = (its ++ its2).toArray := by simp
  rw [ea]
  exact ⟨.ref _, _, I.lnew (t' := s.toks) (r.append r2) (by rw [List.length_append]; omega), rfl, q _ I.fresh⟩
noncomputable def dAdd (nl : NL) : D → D → Hh → R D := fun x y h => match x, y with
  | .int i, .int j => .ok (.int (i + j)) h
  | .tup a, .tup b => if a.length + b.length ≤ 1000000 then .ok (.tup (a ++ b)) h else .bad
  | .str a, .str b => if a.length + b.length ≤ 1000000 then .ok (.str (a ++ b)) h else .bad
  | x, y => match lsOf x h, lsOf y h with
    | some a, some b => if a.length + b.length ≤ 1000000 then nl (a ++ b) h else .bad
    | _, _ => .bad
noncomputable abbrev rrAdd (K : PySem.W.Frag) : R2 := fun x y H Q => (rI0 fun i j => .int (i + j)) x y H Q ∨ (rCatT K x y H Q ∨ rCatT0 K x y H Q) ∨ rCatR x y H Q ∨ ∃ i j, x = .str i ∧ y = .str j ∧ i.length + j.length ≤ sizeLine ∧ Q (.str (i ++ j)) H
theorem or_add : OpR X (binaryOp .Add) (fun x y H Q => rrAdd X.K x y H (FrzP Q)) := OpR.frz (OpR.or op_add (OpR.or (OpR.or op_catT op_catT0) (OpR.or op_catR op_add_str)))
theorem Post.nowF {α : List Addr} {H : Hp} {h : Hh} {Q : VK} {d : D} {v : V} (p : Post K g α H Q d h) (r : HRel K g α H h) (rd : RelD K g α H d v) : FrzP Q v H := .inl (p.now r rd)
theorem im_add {nl : NL} [IsNL nl] : Imp2 K g ε (dAdd nl) (fun x y H Q => rrAdd K x y H (FrzP Q)) := by
  intro α H h a b x y Q r ra rb w
  have gen : ∀ {a b : D} {x y : V}, RelD K g α H a x → RelD K g α H b y → WQ K g ε α H (match lsOf a h, lsOf b h with
    | some a, some b => if a.length + b.length ≤ 1000000 then nl (a ++ b) h else .bad
    | _, _ => .bad) (Post K g α H Q) → rrAdd K x y H (FrzP Q) := by
    intro a b x y ra rb w
    cases e1 : lsOf a h with
    | none => simp only [e1] at w; exact w.elim
    | some da =>
      cases e2 : lsOf b h with
      | none => simp only [e1, e2] at w; exact w.elim
      | some db =>
        simp only [e1, e2] at w
        obtain ⟨p, va, rfl, hva, rsa⟩ := ls_rel r ra e1
        obtain ⟨q, vb, rfl, hvb, rsb⟩ := ls_rel r rb e2
        obtain ⟨hl, w⟩ := WQ.iteP w
        refine .inr (.inr (.inl ⟨p, q, va, vb, rfl, rfl, hva, hvb, line_of (by rw [← rsa.length, ← rsb.length]; exact hl), fun l hl' => ?_⟩))
        exact NL.post w r (rsa.append rsb) hl'
  unfold dAdd at w
  split at w
  · cases ra
    cases rb
    exact .inl ⟨_, _, rfl, rfl, Post.nowF w r (.int _)⟩
  · cases ra with
    | @tup da pa va ha rsa =>
      cases rb with
      | @tup db pb vb hb rsb =>
        obtain ⟨hl, w⟩ := WQ.iteP w
        refine .inr (.inl ?_)
        cases va with
        | nil =>
          cases rsa
          exact .inr ⟨_, _, _, rfl, rfl, SqT.of ha, SqT.of hb, Post.nowF w r (.tup hb rsb)⟩
        | cons z zs =>
          refine .inl ⟨_, _, _, _, rfl, rfl, SqT.of ha, SqT.of hb, by simp, line_of (by rw [← rsa.length, ← rsb.length]; exact hl), fun e => ?_, fun _ p hp => .inl (Post.tup w r (rsa.append rsb) hp)⟩
          subst e
          cases rsb
          refine Post.nowF w r (.tup ha ?_)
          rw [List.append_nil]; exact rsa
  · cases ra
    cases rb
    obtain ⟨hl, w⟩ := WQ.iteP w
    exact .inr (.inr (.inr ⟨_, _, rfl, rfl, line_of hl, Post.nowF w r (.str _)⟩))
  · exact gen ra rb w
noncomputable def dSub : D → D → Hh → R D
  | .int i, .int j, h => .ok (.int (i - j)) h
  | _, _, _ => .bad
theorem im_sub : Imp2 K g ε dSub (rI0 fun i j => .int (i - j)) := by
  intro α H h a b x y Q r ra rb w
  unfold dSub at w
  cases ra with
  | int i =>
    cases rb with
    | int j => exact ⟨i, j, rfl, rfl, Post.now w r (.int _)⟩
    | _ => exact w.elim
  | _ => exact w.elim
noncomputable def rRepR : R2 := fun x y H Q => ∃ l k xs, x = .ref l ∧ y = .int k ∧ Rd H l (.lst xs) ∧ -(2 ^ 63) ≤ k ∧ k < 2 ^ 63 ∧ xs.length * k.toNat ≤ sizeLine ∧
  ∀ p, H p = none → Q (.ref p) (upd H p (.lst (List.replicate k.toNat xs).flatten))
theorem op_repR : OpR X (binaryOp .Mult) rRepR := by
  intro pins s σ H x y v u Q I rx ry h
  obtain ⟨l, k, xs, rfl, rfl, hH, h1, h2, hz, q⟩ := h
  cases rx
  obtain ⟨t, rfl⟩ := ry
  obtain ⟨its, n, z, r, hl, e⟩ := lstR I hH
  have hlen : its.toArray.size * k.toNat ≤ sizeLine := by rw [List.size_toArray, ← hl]; exact hz
  have hcap : ¬ its.toArray.size * k.toNat > (2 ^ 63 - 1) / 8 := by
    have : (sizeLine : Nat) ≤ (2 ^ 63 - 1) / 8 := by decide
    omega
  have hfit : ¬ (!Builtin.List.listFitsIndex k) = true := by
    rw [fitsIndex_both h1 h2]
    exact Bool.false_ne_true
  have hlong : ¬ Builtin.List.listTooLong (its.toArray.size * k.toNat) = true := by
    rw [notLongL hlen]
    exact Bool.false_ne_true
  have hnew : List.foldl (fun x1 x2 => x1 ++ x2) #[] (List.replicate (if its.toArray.isEmpty = true then 0 else k.toNat) its.toArray) = (List.replicate k.toNat its).flatten.toArray := by
    have f0 : ∀ m : Nat, List.foldl (fun x1 x2 => x1 ++ x2) #[] (List.replicate m its.toArray) = (List.replicate m its).flatten.toArray := fun m => by
      have := foldl_rep its m []
      rw [List.nil_append] at this
      exact this
    rw [f0]
    cases its with
    | nil => simp
    | cons a r' => rw [if_neg (by simp)]
  refine wpAny_binaryOp_repeat_ref (T := "list") (U := "int") (by decide) ⟨_, e, rfl⟩ (fun s' => typeIs_int s' k t) noFill_list_mul F.fills_int_mul F.slot_int_rmul repeat_list F.slot_int_index.lookup
    (call_meets F.slot_int_rmul (typeIs_int s k t) F.entry_int_rmul (F.args_int_rmul_2 _ _) (int___rmul___int_list k t l its.toArray n)
      ⟨e, rfl, ⟨_, e, rfl⟩, call_meets F.slot_list_mul ⟨_, e, rfl⟩ F.entry_list_mul (F.args_list_mul_2 _ _) (AutoListH.list___mul___list_int_3 l its.toArray n k t hfit hcap hlong) ⟨e, ?_⟩⟩)
  rw [hnew]
  exact ⟨.ref _, _, I.lnew (t' := s.toks) (r.rep k.toNat) (by rw [len_rep, Nat.mul_comm]; exact hz), rfl, q _ I.fresh⟩
noncomputable def dMul (nl : NL) : D → D → Hh → R D := fun x y h => match x, y with
  | .int i, .int j => if sml i = true ∧ sml j = true then .ok (.int (i * j)) h else .bad
  | x, .int k => match lsOf x h with
    | some ds => if k.natAbs ≤ 1000000 ∧ ds.length * k.toNat ≤ 1000000 then nl (List.replicate k.toNat ds).flatten h else .bad
    | none => .bad
  | _, _ => .bad
theorem op_mulS : OpR X (binaryOp .Mult) (rI (fun i j => sml i = true ∧ sml j = true) fun i j => .int (i * j)) := opI fun _ _ _ _ _ _ _ hc q => mul_int q (IntMulOk.of_bits (Nat.le_trans (sml_bits hc.1) (by decide)) (Nat.le_trans (sml_bits hc.2) (by decide)))
noncomputable abbrev rrMul : R2 := fun x y H Q => (rI (fun i j => sml i = true ∧ sml j = true) fun i j => .int (i * j)) x y H Q ∨ rRepR x y H Q
theorem or_mul : OpR X (binaryOp .Mult) (fun x y H Q => rrMul x y H (FrzP Q)) := OpR.frz (OpR.or op_mulS op_repR)
theorem im_mul {nl : NL} [IsNL nl] : Imp2 K g ε (dMul nl) (fun x y H Q => rrMul x y H (FrzP Q)) := by
  intro α H h a b x y Q r ra rb w
  have gen : ∀ {a : D} {k : Int} {x : V}, RelD K g α H a x → WQ K g ε α H (match lsOf a h with
    | some ds => if k.natAbs ≤ 1000000 ∧ ds.length * k.toNat ≤ 1000000 then nl (List.replicate k.toNat ds).flatten h else .bad
    | none => .bad) (Post K g α H Q) → rrMul x (.int k) H (FrzP Q) := by
    intro a k x ra w
    cases e1 : lsOf a h with
    | none => simp only [e1] at w; exact w.elim
    | some ds =>
      simp only [e1] at w
      obtain ⟨hl, w⟩ := WQ.iteP w
      obtain ⟨p, vs, rfl, hv, rs⟩ := ls_rel r ra e1
      refine .inr ⟨p, k, vs, rfl, rfl, hv, by omega, by omega, line_of (by rw [← rs.length]; exact hl.2), fun l hl' => ?_⟩
      exact NL.post w r (rs.flat k.toNat) hl'
  unfold dMul at w
  split at w
  · cases ra
    cases rb
    obtain ⟨hc, w⟩ := WQ.iteP w
    exact .inl ⟨_, _, rfl, rfl, hc, Post.nowF w r (.int _)⟩
  · cases rb
    exact gen ra w
  · exact w.elim
noncomputable def dDiv : D → D → Hh → R D
  | .int i, .int j, h => if 0 < j ∧ sml j = true then .ok (.int (i / j)) h else .bad
  | _, _, _ => .bad
theorem op_fdivS : OpR X (binaryOp .FloorDiv) (rI (fun i j => 0 < j ∧ sml j = true) fun i j => .int (i / j)) := opI fun i j _ _ _ _ _ hc q => by
  have e : i.fdiv j = i / j := Int.fdiv_eq_ediv_of_nonneg _ (by omega)
  refine floordiv_int (by omega) ?_ (.inl (PyProof.noPylong_of_log2 (Nat.lt_trans (sml_log hc.2) (by decide))))
  rw [e]; exact q
theorem im_div : Imp2 K g ε dDiv (rI (fun i j => 0 < j ∧ sml j = true) fun i j => .int (i / j)) := by
  intro α H h a b x y Q r ra rb w
  unfold dDiv at w
  cases ra with
  | int i =>
    cases rb with
    | int j =>
      obtain ⟨hc, w⟩ := WQ.iteP w
      exact ⟨i, j, rfl, rfl, hc, Post.now w r (.int _)⟩
    | _ => exact w.elim
  | _ => exact w.elim
noncomputable def dMod : D → D → Hh → R D
  | .int i, .int j, h => if 0 < j then .ok (.int (i % j)) h else .bad
  | _, _, _ => .bad
theorem im_mod : Imp2 K g ε dMod (rI (fun _ j => 0 < j) fun i j => .int (i % j)) := by
  intro α H h a b x y Q r ra rb w
  unfold dMod at w
  cases ra with
  | int i =>
    cases rb with
    | int j =>
      obtain ⟨hc, w⟩ := WQ.iteP w
      exact ⟨i, j, rfl, rfl, hc, Post.now w r (.int _)⟩
    | _ => exact w.elim
  | _ => exact w.elim
noncomputable def dPow : D → D → Hh → R D
  | .int i, .int j, h => if 0 ≤ j ∧ j.natAbs ≤ 1000 ∧ sml i = true then .ok (.int (i ^ j.toNat)) h else .bad
  | _, _, _ => .bad
theorem op_powS : OpR X (binaryOp .Pow) (rI (fun i j => 0 ≤ j ∧ j.natAbs ≤ 1000 ∧ sml i = true) fun i j => .int (i ^ j.toNat)) := opI fun i j _ _ _ _ _ hc q => pow_int hc.1 (by
  have := sml_bits hc.2.2
  have h1 : ((Builtin.Int.intBits i : Nat) : Int) ≤ 1900 := by exact_mod_cast this
  calc ((Builtin.Int.intBits i : Nat) : Int) * j ≤ 1900 * j := Int.mul_le_mul_of_nonneg_right h1 hc.1
    _ ≤ 1900 * 1000 := Int.mul_le_mul_of_nonneg_left (show j ≤ 1000 by have := hc.2.1; omega) (by decide)
    _ ≤ 2 ^ 27 := by decide) q
theorem im_pow : Imp2 K g ε dPow (rI (fun i j => 0 ≤ j ∧ j.natAbs ≤ 1000 ∧ sml i = true) fun i j => .int (i ^ j.toNat)) := by
  intro α H h a b x y Q r ra rb w
  unfold dPow at w
  cases ra with
  | int i =>
    cases rb with
    | int j =>
      obtain ⟨hc, w⟩ := WQ.iteP w
      exact ⟨i, j, rfl, rfl, hc, Post.now w r (.int _)⟩
    | _ => exact w.elim
  | _ => exact w.elim
noncomputable def dNeg : D → Hh → R D
  | .int i, h => .ok (.int (-i)) h
  | _, _ => .bad
theorem im_neg : Imp1 K g ε dNeg (rU fun i => .int (-i)) := by
  intro α H h a x Q r ra w
  unfold dNeg at w
  cases ra with
  | int i => exact ⟨i, rfl, Post.now w r (.int _)⟩
  | _ => exact w.elim
noncomputable def dCmp (p : Int → Int → Bool) : D → D → Hh → R D
  | .int i, .int j, h => .ok (.bl (p i j)) h
  | _, _, _ => .bad
noncomputable def ltI : Int → Int → Bool
  | .ofNat a, .ofNat b => Nat.blt a b
  | .ofNat _, .negSucc _ => false
  | .negSucc _, .ofNat _ => true
  | .negSucc a, .negSucc b => Nat.blt b a
theorem ltI_eq : ltI = fun i j => decide (i < j) := by
  funext i j
  cases i with
  | ofNat a =>
    cases j with
    | ofNat b =>
      show Nat.blt a b = _
      rw [Bool.eq_iff_iff, Nat.blt_eq, decide_eq_true_iff]
      exact Int.ofNat_lt.symm
    | negSucc b => exact (decide_eq_false (by have : Int.ofNat a = (a : Int) := rfl; omega)).symm
  | negSucc a =>
    cases j with
    | ofNat b => exact (decide_eq_true (by have : Int.ofNat b = (b : Int) := rfl; omega)).symm
    | negSucc b =>
      show Nat.blt b a = _
      rw [Bool.eq_iff_iff, Nat.blt_eq, decide_eq_true_iff]
      omega
noncomputable def leI (i j : Int) : Bool := !ltI j i
theorem leI_eq : leI = fun i j => decide (i ≤ j) := by
  funext i j
  unfold leI
  rw [ltI_eq, Bool.eq_iff_iff]
  simp
noncomputable def dLt : D → D → Hh → R D := dCmp ltI
noncomputable def dLe : D → D → Hh → R D := dCmp leI
noncomputable def dGt : D → D → Hh → R D := dCmp fun i j => ltI j i
noncomputable def dGe : D → D → Hh → R D := dCmp fun i j => leI j i
theorem im_cmp {p : Int → Int → Bool} : Imp2 K g ε (dCmp p) (rI0 fun i j => .bl (p i j)) := by
  intro α H h a b x y Q r ra rb w
  unfold dCmp at w
  cases ra with
  | int i =>
    cases rb with
    | int j => exact ⟨i, j, rfl, rfl, Post.now w r (.bl _)⟩
    | _ => exact w.elim
  | _ => exact w.elim
theorem im_lt : Imp2 K g ε dLt (rI0 fun i j => .bl (decide (i < j))) := by
  unfold dLt; rw [ltI_eq]; exact im_cmp
theorem im_le : Imp2 K g ε dLe (rI0 fun i j => .bl (decide (i ≤ j))) := by
  unfold dLe; rw [leI_eq]; exact im_cmp
theorem im_gt : Imp2 K g ε dGt (rI0 fun i j => .bl (decide (j < i))) := by
  unfold dGt; rw [ltI_eq]; exact im_cmp
theorem im_ge : Imp2 K g ε dGe (rI0 fun i j => .bl (decide (j ≤ i))) := by
  unfold dGe; rw [leI_eq]; exact im_cmp
noncomputable def seqOf (d : D) (h : Hh) : Option (List D) := match d with
  | .tup ds => some ds
  | .frl ds => some ds
  | .scr ds => some ds
  | .ref n => lstOf h n
  | _ => none
theorem seq_rel {α : List Addr} {H : Hp} {h : Hh} {d : D} {x : V} {ds : List D} (r : HRel K g α H h) (rd : RelD K g α H d x) (e : seqOf d h = some ds) : ∃ p vs, x = .ref p ∧ (SqL K H p vs ∨ SqT K H p vs) ∧ RelDs K g α H ds vs := by
  unfold seqOf at e
  cases rd with
  | tup hq rs => cases e; exact ⟨_, _, rfl, .inr (SqT.of hq), rs⟩
  | frl hq rs => cases e; exact ⟨_, _, rfl, .inl hq.sq, rs⟩
  | scr hq rs => cases e; exact ⟨_, _, rfl, .inl hq.sq, rs⟩
  | ref hp => obtain ⟨vs, hv, rs⟩ := r.lst e hp; exact ⟨_, vs, rfl, .inl (SqL.of hv), rs⟩
  | _ => cases e
noncomputable def dIx : D → D → Hh → R D := fun a b h => match seqOf a h, b with
  | some ds, .int i => match atI ds i with
    | some d => .ok d h
    | none => .bad
  | _, _ => .bad
theorem atI_rel {α : List Addr} {H : Hp} {ds : List D} {vs : List V} {i : Int} {d : D} (rs : RelDs K g α H ds vs) (e : atI ds i = some d) : ∃ v, atI vs i = some v ∧ RelD K g α H d v := by
  unfold atI at e ⊢
  rw [← rs.length]
  cases e1 : ixN ds.length i with
  | none => rw [e1] at e; cases e
  | some j =>
    rw [e1] at e
    exact rs.get e
theorem im_ix : Imp2 K g ε dIx (rIx K) := by
  intro α H h a b x y Q r ra rb w
  unfold dIx at w
  cases e1 : seqOf a h with
  | none => simp only [e1] at w; exact w.elim
  | some ds =>
    simp only [e1] at w
    obtain ⟨p, vs, rfl, hq, rs⟩ := seq_rel r ra e1
    cases rb with
    | int i =>
      cases e2 : atI ds i with
      | none => simp only [e2] at w; exact w.elim
      | some d =>
        simp only [e2] at w
        obtain ⟨v, ev, rv⟩ := atI_rel rs e2
        rcases hq with hq | hq
        · exact .inl ⟨p, vs, i, v, rfl, rfl, hq, ev, Post.now w r rv⟩
        · exact .inr (.inl ⟨p, vs, i, v, rfl, rfl, hq, ev, Post.now w r rv⟩)
    | _ => exact w.elim
noncomputable def dSetIx : D → D → D → Hh → R Unit := fun o i v h => match o, i with
  | .ref n, .int k => match lstOf h n with
    | some ds => match ixN ds.length k with
      | some j => .ok () (h.set n (.lst (ds.set j v)))
      | none => .bad
    | none => .bad
  | _, _ => .bad
theorem im_setIx : ImpS K g ε dSetIx rSetL := by
  intro α H h o i v x y z Q r ro ri rv w
  unfold dSetIx at w
  cases ro with
  | @ref n p hp =>
    cases ri with
    | int k =>
      cases e1 : lstOf h n with
      | none => simp only [e1] at w; exact w.elim
      | some ds =>
        simp only [e1] at w
        cases e2 : ixN ds.length k with
        | none => simp only [e2] at w; exact w.elim
        | some j =>
          simp only [e2] at w
          obtain ⟨vs, hv, rs⟩ := r.lst e1 hp
          refine ⟨p, vs, k, j, rfl, rfl, hv, by rw [← rs.length]; exact e2, ?_⟩
          have x := Ext.write (o := .lst (vs.set j z)) r hp
          exact w _ α x (r.write hp ⟨_, upd_same, (rs.set rv j).ext x⟩)
    | _ => exact w.elim
  | _ => exact w.elim
noncomputable def cutD (xs : List D) (lo hi : Option Int) : List D := (xs.drop (HT.sIx xs.length 0 lo)).take (HT.sIx xs.length xs.length hi - HT.sIx xs.length 0 lo)
theorem cut_rel {α : List Addr} {H : Hp} {ds : List D} {vs : List V} (rs : RelDs K g α H ds vs) (lo hi : Option Int) : RelDs K g α H (cutD ds lo hi) (cutV vs lo hi) := by
  unfold cutD cutV
  rw [← rs.length]
  exact (rs.drop _).take _
noncomputable abbrev MO := En → Hh → R (Option Int)
noncomputable def cPart (a : ME) : MO := fun env h => (a env h).bind fun d h1 => match d with
  | .int i => .ok (some i) h1
  | _ => .bad
noncomputable def tMO (K : PySem.W.Frag) (g : GG) (ε : EE) (m : MO) : TO := fun σ H Q => ∃ α env h, SRel K g α H env σ h ∧ WQ K g ε α H (m env h) fun o h' => ∀ H' α', Ext K α H α' H' → HRel K g α' H' h' → Q o H'
theorem PO.imp {e : Option Expr} {t t' : TO} (h : PO X e t) (i : ∀ σ H Q, t' σ H Q → t σ H Q) : PO X e t' := fun pins s σ H Q I w => h pins s σ H Q I (i σ H Q w)
theorem so_some {e : Expr} {me : ME} (he : PE X e (tM X.K g ε me)) : PO X (some e) (tMO X.K g ε (cPart me)) := PO.imp (po_some he) fun σ H Q ⟨α, env, h, s, w⟩ => tM.use s w.bind fun d1 h1 v1 H1 α1 e1 s1 r1 w1 => by
  cases r1 with
  | int i => exact ⟨i, rfl, w1 H1 α1 e1 s1.heap⟩
  | _ => exact w1.elim
noncomputable def dCut (nl : NL) : D → Option Int → Option Int → Hh → R D := fun d lo hi h => match d with
  | .tup ds => .ok (.tup (cutD ds lo hi)) h
  | .frl ds => nl (cutD ds lo hi) h
  | .scr ds => nl (cutD ds lo hi) h
  | .ref n => match lstOf h n with
    | some ds => nl (cutD ds lo hi) h
    | none => .bad
  | _ => .bad
noncomputable def cSlice (nl : NL) (a : ME) (l u : MO) : ME := fun env h => (a env h).bind fun x h1 => (l env h1).bind fun lo h2 => (u env h2).bind fun hi h3 => dCut nl x lo hi h3
theorem tMO.use {α : List Addr} {H : Hp} {env : En} {σ : St} {h : Hh} {m : MO} {Q : Option Int → Hp → Prop} {k : Option Int → Hh → Prop} (s : SRel K g α H env σ h) (w : WQ K g ε α H (m env h) k)
    (q : ∀ d h' H' α', Ext K α H α' H' → SRel K g α' H' env σ h' → k d h' → Q d H') : tMO K g ε m σ H Q :=
  ⟨α, env, h, s, w.mono fun d h' _ kk H' α' e r => q d h' H' α' e (s.ext e r) kk⟩
theorem se_slice {nl : NL} [IsNL nl] {e : Expr} {me : ME} {lo hi : Option Expr} {ml mh : MO} {p2 pos : Pos} (he : PE X e (tM X.K g ε me)) (hl : PO X lo (tMO X.K g ε ml)) (hu : PO X hi (tMO X.K g ε mh)) : PE X (.Subscript e (.Slice lo hi none p2) pos) (tM X.K g ε (cSlice nl me ml mh)) :=
  PE.imp (PE.frz (pe_slice (SlR.or sl_list (SlR.or sl_tup sl_tupW)) he hl hu)) fun σ H Q ⟨α, env, h, s, w⟩ => tM.use s w.bind fun d1 h1 v1 H1 α1 e1 s1 r1 w1 => tMO.use s1 (w1.ext e1).bind fun o2 h2 H2 α2 e2 s2 w2 => tMO.use s2 (w2.ext e2).bind fun o3 h3 H3 α3 e3 s3 w3 => by
    have tr := e1.trans (e2.trans e3)
    have r3 := r1.ext (e2.trans e3)
    have w4 := (w3.ext e3).mono fun _ _ _ p => Post.ext tr p
    unfold dCut at w4
    cases r3 with
    | @frl ds p vs hq rs => exact .inl ⟨_, _, rfl, hq.sq, fun l hl => NL.post w4 s3.heap (cut_rel rs _ _) hl⟩
    | @scr ds p vs hq rs => exact .inl ⟨_, _, rfl, hq.sq, fun l hl => NL.post w4 s3.heap (cut_rel rs _ _) hl⟩
    | @ref n p hp =>
      cases e1 : lstOf h3 n with
      | none => simp only [e1] at w4; exact w4.elim
      | some ds =>
        simp only [e1] at w4
        obtain ⟨vs, hv, rs⟩ := s3.heap.lst e1 hp
        exact .inl ⟨_, _, rfl, SqL.of hv, fun l hl => NL.post w4 s3.heap (cut_rel rs _ _) hl⟩
    | @tup ds p vs hq rs =>
      refine .inr ?_
      by_cases hw : HT.sIx vs.length 0 o2 = 0 ∧ HT.sIx vs.length vs.length o3 = vs.length
      · refine .inr ⟨_, _, rfl, SqT.of hq, hw.1, hw.2, ?_⟩
        refine Post.nowF w4 s3.heap (.tup hq ?_)
        have : cutV vs o2 o3 = vs := by unfold cutV; rw [hw.1, hw.2]; simp
        have q := cut_rel rs o2 o3
        rw [this] at q
        exact q
      · exact .inl ⟨_, _, rfl, SqT.of hq, hw, fun l hl => .inl (Post.tup w4 s3.heap (cut_rel rs _ _) hl)⟩
    | _ => exact w4.elim
end
end L2.FE
namespace L2.FE
open PySem PySem.Spec PyProof.Rows
noncomputable def flatD : D → Bool
  | .non => true | .bl _ => true | .int _ => true | .str _ => true
  | _ => false
noncomputable def eqF : D → D → Bool
  | .non, .non => true
  | .bl a, .bl b => a == b
  | .bl a, .int b => (if a then 1 else 0) == b
  | .int a, .bl b => a == (if b then 1 else 0)
  | .int a, .int b => a == b
  | .str a, .str b => a == b
  | _, _ => false
noncomputable def eqL (f : D → D → Option Bool) : List D → List D → Option Bool
  | x :: xs, y :: ys => match f x y, eqL f xs ys with
    | some b, some c => some (b && c)
    | _, _ => none
  | [], [] => some true
  | _, _ => some false
inductive Vw where
  | fl | tp (ds : List D) | ls (ds : List D) | no
noncomputable def vw (d : D) (h : Hh) : Vw := match d with
  | .non => .fl | .bl _ => .fl | .int _ => .fl | .str _ => .fl
  | .tup ds => .tp ds
  | .frl ds => .ls ds
  | .scr ds => .ls ds
  | .ref n => match lstOf h n with
    | some ds => .ls ds
    | none => .no
  | _ => .no
noncomputable def eqD : Nat → Hh → D → D → Option Bool
  | 0, _, _, _ => none
  | k + 1, h, a, b => match vw a h, vw b h with
    | .fl, .fl => some (eqF a b)
    | .tp xs, .tp ys => eqL (eqD k h) xs ys
    | .ls xs, .ls ys => if xs.length = ys.length then eqL (eqD k h) xs ys else some false
    | .fl, .tp _ => some false
    | .fl, .ls _ => some false
    | .tp _, .fl => some false
    | .tp _, .ls _ => some false
    | .ls _, .fl => some false
    | .ls _, .tp _ => some false
    | _, _ => none
section
variable {K : PySem.W.Frag} {g : GG} {α : List Addr} {H : Hp} {h : Hh}
theorem eqL_same {f : D → D → Option Bool} (hf : ∀ a b x c, RelD K g α H a x → RelD K g α H b x → f a b = some c → c = true) : ∀ {xs ys : List D} {vs : List V} {c : Bool}, RelDs K g α H xs vs → RelDs K g α H ys vs → eqL f xs ys = some c → c = true
  | _, _, _, _, .nil, .nil, e => by simp [eqL] at e; exact e
  | _, _, _, c, .cons r t, .cons r' t', e => by
    unfold eqL at e
    split at e
    · rename_i b c' h1 h2
      have e1 := hf _ _ _ _ r r' h1
      have e2 := eqL_same hf t t' h2
      subst e1 e2
      exact (Option.some.inj e).symm
    · cases e
theorem vw_fl {d : D} {x : V} (rd : RelD K g α H d x) (e : vw d h = .fl) : flatD d = true := by
  cases rd with
  | ref hp => unfold vw at e; simp only at e; split at e <;> cases e
  | _ => first | rfl | cases e
theorem vw_tp {d : D} {x : V} {ds : List D} (rd : RelD K g α H d x) (e : vw d h = .tp ds) : ∃ p vs, x = .ref p ∧ SqT K H p vs ∧ RelDs K g α H ds vs := by
  cases rd with
  | tup hp rs => cases e; exact ⟨_, _, rfl, SqT.of hp, rs⟩
  | ref hp => unfold vw at e; simp only at e; split at e <;> cases e
  | _ => cases e
theorem vw_ls {d : D} {x : V} {ds : List D} (r : HRel K g α H h) (rd : RelD K g α H d x) (e : vw d h = .ls ds) : ∃ p vs, x = .ref p ∧ SqL K H p vs ∧ RelDs K g α H ds vs := by
  cases rd with
  | frl hp rs => cases e; exact ⟨_, _, rfl, hp.sq, rs⟩
  | scr hp rs => cases e; exact ⟨_, _, rfl, hp.sq, rs⟩
  | @ref n p hp =>
    unfold vw at e
    simp only at e
    cases el : lstOf h n with
    | none => rw [el] at e; cases e
    | some ds' =>
      rw [el] at e; cases e
      obtain ⟨vs, hv, rs⟩ := r.lst el hp
      exact ⟨_, _, rfl, SqL.of hv, rs⟩
  | _ => cases e
theorem eqL_all {f : D → D → Option Bool} : ∀ {xs ys : List D} {c : Bool}, eqL f xs ys = some c →
    (∀ (j : Nat) (x y : D), xs[j]? = some x → ys[j]? = some y → ∃ b, f x y = some b) ∧ c = ((List.range (min xs.length ys.length)).all (fun j => ((f (xs.getD j .non) (ys.getD j .non)).getD false)) && xs.length == ys.length)
  | [], [], c, e => by
    simp [eqL] at e
    refine ⟨fun j x y h => by simp at h, ?_⟩
    simp [← e]
  | [], _ :: _, c, e => by
    simp [eqL] at e
    exact ⟨fun j x y h => by simp at h, by simp [← e]⟩
  | _ :: _, [], c, e => by
    simp [eqL] at e
    exact ⟨fun j x y _ h => by simp at h, by simp [← e]⟩
  | x :: xs, y :: ys, c, e => by
    unfold eqL at e
    split at e
    · rename_i b c' h1 h2
      obtain ⟨q1, q2⟩ := eqL_all h2
      refine ⟨fun j x' y' hx hy => ?_, ?_⟩
      · cases j with
        | zero => simp at hx hy; subst hx hy; exact ⟨b, h1⟩
        | succ j => exact q1 j x' y' (by simpa using hx) (by simpa using hy)
      · have e' := (Option.some.inj e).symm
        rw [e', q2]
        have hm : min (x :: xs).length (y :: ys).length = min xs.length ys.length + 1 := by simp [Nat.succ_min_succ]
        rw [hm, List.range_succ_eq_map, List.all_cons, List.all_map]
        have h0 : (f ((x :: xs).getD 0 .non) ((y :: ys).getD 0 .non)).getD false = b := by
          show (f x y).getD false = b
          rw [h1]; rfl
        rw [h0]
        have hlen : ((x :: xs).length == (y :: ys).length) = (xs.length == ys.length) := by simp
        rw [hlen, Bool.and_assoc]
        rfl
    · cases e
end
section
variable {X : Cx} {g : GG} {pins : List (Addr × Obj)} {σ : St} {H : Hp} {s : Shared} {α : List Addr} {h : Hh}
open PySem.SeqAt
theorem flat_at {A : Around} {a b : D} {x y : V} {u v : Value} {K : PySem.W.Frag} (ra : RelD K g α H a x) (rb : RelD K g α H b y) (ru : RelV x u) (rv : RelV y v) (fa : flatD a = true) (fb : flatD b = true) :
    EqAt A s u v (eqF a b) ∧ RcAt A s u v (eqF a b) ∧ RcNeAt A s u v (!eqF a b) := by
  cases ra with
  | non =>
    cases ru
    cases rb with
    | non => cases rv; exact ⟨.same _, .none_none, .none_none⟩
    | bl z => cases rv; exact ⟨.none_bool z, .none_bool z, .none_bool z⟩
    | int z => obtain ⟨t, rfl⟩ := rv; exact ⟨.none_int z t, .none_int z t, .none_int z t⟩
    | str z => obtain ⟨t, rfl⟩ := rv; exact ⟨.none_str z t, .none_str z t, .none_str z t⟩
    | _ => cases fb
  | bl q =>
    cases ru
    cases rb with
    | non => cases rv; exact ⟨.bool_none q, .bool_none q, .bool_none q⟩
    | bl z => cases rv; exact ⟨.bool_bool q z, .bool_bool q z, .bool_bool q z⟩
    | int z => obtain ⟨t, rfl⟩ := rv; exact ⟨.bool_int q z t, .bool_int q z t, .bool_int q z t⟩
    | str z => obtain ⟨t, rfl⟩ := rv; exact ⟨.bool_str q z t, .bool_str q z t, .bool_str q z t⟩
    | _ => cases fb
  | int q =>
    obtain ⟨t', rfl⟩ := ru
    cases rb with
    | non => cases rv; exact ⟨.int_none q t', .int_none q t', .int_none q t'⟩
    | bl z => cases rv; exact ⟨.int_bool q t' z, .int_bool q t' z, .int_bool q t' z⟩
    | int z => obtain ⟨t, rfl⟩ := rv; exact ⟨.int_int q t' z t, .int_int q t' z t, .int_int q t' z t⟩
    | str z => obtain ⟨t, rfl⟩ := rv; exact ⟨.int_str q t' z t, .int_str q t' z t, .int_str q t' z t⟩
    | _ => cases fb
  | str q =>
    obtain ⟨t', rfl⟩ := ru
    cases rb with
    | non => cases rv; exact ⟨.str_none q t', .str_none q t', .str_none q t'⟩
    | bl z => cases rv; exact ⟨.str_bool q t' z, .str_bool q t' z, .str_bool q t' z⟩
    | int z => obtain ⟨t, rfl⟩ := rv; exact ⟨.str_int q t' z t, .str_int q t' z t, .str_int q t' z t⟩
    | str z => obtain ⟨t, rfl⟩ := rv; exact ⟨.str_str q t' z t, .str_str q t' z t, .str_str q t' z t⟩
    | _ => cases fb
  | _ => cases fa
theorem tup_flat {A : Around} {b : D} {y : V} {v : Value} {p : Addr} {its : Array Value} {K : PySem.W.Frag} (ht : s.heap.IsTuple p its) (hu : A.units < cLine) (rb : RelD K g α H b y) (rv : RelV y v) (fb : flatD b = true) :
    (EqAt A s (.ref p) v false ∧ RcAt A s (.ref p) v false ∧ RcNeAt A s (.ref p) v true) ∧ (EqAt A s v (.ref p) false ∧ RcAt A s v (.ref p) false ∧ RcNeAt A s v (.ref p) true) := by
  cases rb with
  | non => cases rv; exact ⟨⟨.tuple_none ht hu, .tuple_none ht hu, .tuple_none ht hu⟩, .none_tuple ht hu, .none_tuple ht hu, .none_tuple ht hu⟩
  | bl z => cases rv; exact ⟨⟨.tuple_bool z ht hu, .tuple_bool z ht hu, .tuple_bool z ht hu⟩, .bool_tuple z ht hu, .bool_tuple z ht hu, .bool_tuple z ht hu⟩
  | int z => obtain ⟨t, rfl⟩ := rv; exact ⟨⟨.tuple_int z t ht hu, .tuple_int z t ht hu, .tuple_int z t ht hu⟩, .int_tuple z t ht hu, .int_tuple z t ht hu, .int_tuple z t ht hu⟩
  | str z => obtain ⟨t, rfl⟩ := rv; exact ⟨⟨.tuple_str z t ht hu, .tuple_str z t ht hu, .tuple_str z t ht hu⟩, .str_tuple z t ht hu, .str_tuple z t ht hu, .str_tuple z t ht hu⟩
  | _ => cases fb
theorem lst_flat {A : Around} {b : D} {y : V} {v : Value} {p : Addr} {its : Array Value} {K : PySem.W.Frag} (ht : s.heap.IsList p its) (hu : A.units < cLine) (rb : RelD K g α H b y) (rv : RelV y v) (fb : flatD b = true) :
    (EqAt A s (.ref p) v false ∧ RcAt A s (.ref p) v false ∧ RcNeAt A s (.ref p) v true) ∧ (EqAt A s v (.ref p) false ∧ RcAt A s v (.ref p) false ∧ RcNeAt A s v (.ref p) true) := by
  cases rb with
  | non => cases rv; exact ⟨⟨.list_none ht hu, .list_none ht hu, .list_none ht hu⟩, .none_list ht hu, .none_list ht hu, .none_list ht hu⟩
  | bl z => cases rv; exact ⟨⟨.list_bool z ht hu, .list_bool z ht hu, .list_bool z ht hu⟩, .bool_list z ht hu, .bool_list z ht hu, .bool_list z ht hu⟩
  | int z => obtain ⟨t, rfl⟩ := rv; exact ⟨⟨.list_int z t ht hu, .list_int z t ht hu, .list_int z t ht hu⟩, .int_list z t ht hu, .int_list z t ht hu, .int_list z t ht hu⟩
  | str z => obtain ⟨t, rfl⟩ := rv; exact ⟨⟨.list_str z t ht hu, .list_str z t ht hu, .list_str z t ht hu⟩, .str_list z t ht hu, .str_list z t ht hu, .str_list z t ht hu⟩
  | _ => cases fb
theorem items_at {A : Around} {k : Nat} {ds es : List D} {vs us : List V} {its jts : List Value} {c : Bool} (r : HRel X.K g α H h)
    (ih : ∀ (a b : D) (x y : V) (u v : Value) (c : Bool), RelD X.K g α H a x → RelD X.K g α H b y → RelV x u → RelV y v → eqD k h a b = some c → EqAt A.in1 s u v c)
    (rs : RelDs X.K g α H ds vs) (rt : RelDs X.K g α H es us) (rv : Vals vs its) (ru : Vals us jts) (e : eqL (eqD k h) ds es = some c) :
    (∀ j (h1 : j < its.toArray.size) (h2 : j < jts.toArray.size), EqAt A.in1 s its.toArray[j] jts.toArray[j] ((fun (j : Nat) => (eqD k h (ds.getD j .non) (es.getD j .non)).getD false) j)) ∧
    c = ((List.range (min its.toArray.size jts.toArray.size)).all (fun (j : Nat) => (eqD k h (ds.getD j .non) (es.getD j .non)).getD false) && its.toArray.size == jts.toArray.size) := by
  obtain ⟨q1, q2⟩ := eqL_all e
  have l1 : its.toArray.size = ds.length := by rw [List.size_toArray, ← rv.length, rs.length]
  have l2 : jts.toArray.size = es.length := by rw [List.size_toArray, ← ru.length, rt.length]
  refine ⟨fun j h1 h2 => ?_, by rw [l1, l2]; exact q2⟩
  have hd : ds[j]? = some (ds.getD j .non) := by rw [List.getD_eq_getElem?_getD, List.getElem?_eq_getElem (by omega)]; rfl
  have he : es[j]? = some (es.getD j .non) := by rw [List.getD_eq_getElem?_getD, List.getElem?_eq_getElem (by omega)]; rfl
  obtain ⟨b, hb⟩ := q1 j _ _ hd he
  obtain ⟨x, hx, rx⟩ := rs.get hd
  obtain ⟨y, hy, ry⟩ := rt.get he
  obtain ⟨u, hu, rxu⟩ := rv.get hx
  obtain ⟨v, hv, ryv⟩ := ru.get hy
  have eu : its.toArray[j] = u := by
    have := List.getElem?_eq_getElem (l := its) (i := j) (by simpa using h1)
    rw [hu] at this
    simpa using (Option.some.inj this).symm
  have ev : jts.toArray[j] = v := by
    have := List.getElem?_eq_getElem (l := jts) (i := j) (by simpa using h2)
    rw [hv] at this
    simpa using (Option.some.inj this).symm
  rw [eu, ev]
  show EqAt A.in1 s u v ((eqD k h (ds.getD j .non) (es.getD j .non)).getD false)
  rw [hb]
  exact ih _ _ _ _ _ _ _ rx ry rxu ryv hb
theorem notBoth (I : Inv X pins σ H s) {p : Addr} {vs us : List V} (a : SqT X.K H p vs) (b : SqL X.K H p us) : False := by
  obtain ⟨its, r1, ⟨o, e, c, _⟩, _⟩ := I.tuple a
  obtain ⟨jts, r2, ⟨o', n', e', c', _⟩, _⟩ := I.list b
  rw [e] at e'; cases e'; rw [c] at c'; injection c' with z; exact absurd z (by decide)
theorem eqD_same (I : Inv X pins σ H s) (r : HRel X.K g α H h) : ∀ (k : Nat) (a b : D) (x : V) (c : Bool), RelD X.K g α H a x → RelD X.K g α H b x → eqD k h a b = some c → c = true
  | 0, _, _, _, _, _, _, e => by cases e
  | k + 1, a, b, x, c, ra, rb, e => by
    unfold eqD at e
    cases ea : vw a h with
    | no => simp [ea] at e
    | fl =>
      have fa := vw_fl ra ea
      cases eb : vw b h with
      | no => simp [ea, eb] at e
      | fl =>
        simp only [ea, eb] at e
        cases e
        have fb := vw_fl rb eb
        cases ra with
        | non => cases rb with
          | non => rfl
        | bl z => cases rb with
          | bl _ => simp [eqF]
        | int z => cases rb with
          | int _ => simp [eqF]
        | str z => cases rb with
          | str _ => simp [eqF]
        | _ => cases fa
      | tp ds => obtain ⟨p, vs, rfl, _⟩ := vw_tp rb eb; cases ra <;> cases fa
      | ls ds => obtain ⟨p, vs, rfl, _⟩ := vw_ls r rb eb; cases ra <;> cases fa
    | tp da =>
      obtain ⟨p, va, rfl, hp, rs⟩ := vw_tp ra ea
      cases eb : vw b h with
      | no => simp [ea, eb] at e
      | fl => have fb := vw_fl rb eb; cases rb <;> cases fb
      | tp db =>
        simp only [ea, eb] at e
        obtain ⟨q, vb, hpq, hq, rt⟩ := vw_tp rb eb
        cases hpq
        have := I.tuple_inj hp hq
        subst this
        exact eqL_same (fun a b x c => eqD_same I r k a b x c) rs rt e
      | ls db =>
        obtain ⟨q, vb, hpq, hq, rt⟩ := vw_ls r rb eb
        cases hpq
        exact (notBoth I hp hq).elim
    | ls da =>
      obtain ⟨p, va, rfl, hp, rs⟩ := vw_ls r ra ea
      cases eb : vw b h with
      | no => simp [ea, eb] at e
      | fl => have fb := vw_fl rb eb; cases rb <;> cases fb
      | tp db =>
        obtain ⟨q, vb, hpq, hq, rt⟩ := vw_tp rb eb
        cases hpq
        exact (notBoth I hq hp).elim
      | ls db =>
        simp only [ea, eb] at e
        obtain ⟨q, vb, hpq, hq, rt⟩ := vw_ls r rb eb
        cases hpq
        have := I.list_inj hp hq
        subst this
        rw [if_pos (by rw [rs.length, rt.length])] at e
        exact eqL_same (fun a b x c => eqD_same I r k a b x c) rs rt e
theorem eqD_at (I : Inv X pins σ H s) (r : HRel X.K g α H h) : ∀ (k : Nat) (A : Around) (a b : D) (x y : V) (u v : Value) (c : Bool), A.units + k < cLine → RelD X.K g α H a x → RelD X.K g α H b y → RelV x u → RelV y v → eqD k h a b = some c →
    EqAt A s u v c ∧ RcAt A s u v c ∧ RcNeAt A s u v (!c)
  | 0, _, _, _, _, _, _, _, _, _, _, _, _, _, e => by cases e
  | k + 1, A, a, b, x, y, u, v, c, hu, ra, rb, ru, rv, e => by
    have hu0 : A.units < cLine := by omega
    have ih : ∀ (a b : D) (x y : V) (u v : Value) (c : Bool), RelD X.K g α H a x → RelD X.K g α H b y → RelV x u → RelV y v → eqD k h a b = some c → EqAt A.in1 s u v c :=
      fun a b x y u v c h1 h2 h3 h4 h5 => (eqD_at I r k A.in1 a b x y u v c (by show A.units + 1 + k < _; omega) h1 h2 h3 h4 h5).1
    have whole := fun x ra rb => eqD_same I r (k + 1) a b x c ra rb e
    unfold eqD at e
    cases ea : vw a h with
    | no => simp [ea] at e
    | fl =>
      have fa := vw_fl ra ea
      cases eb : vw b h with
      | no => simp [ea, eb] at e
      | fl => simp only [ea, eb] at e; cases e; exact flat_at ra rb ru rv fa (vw_fl rb eb)
      | tp db =>
        simp only [ea, eb] at e; cases e
        obtain ⟨q, vb, rfl, hq, rt⟩ := vw_tp rb eb
        cases rv
        obtain ⟨its, r1, ht, _⟩ := I.tuple hq
        exact (tup_flat ht hu0 ra ru fa).2
      | ls db =>
        simp only [ea, eb] at e; cases e
        obtain ⟨q, vb, rfl, hq, rt⟩ := vw_ls r rb eb
        cases rv
        obtain ⟨its, r1, ht, _⟩ := I.list hq
        exact (lst_flat ht.isList hu0 ra ru fa).2
    | tp da =>
      obtain ⟨p, va, rfl, hp, rs⟩ := vw_tp ra ea
      cases ru
      obtain ⟨its, r1, ht, _⟩ := I.tuple hp
      cases eb : vw b h with
      | no => simp [ea, eb] at e
      | fl => simp only [ea, eb] at e; cases e; exact (tup_flat ht hu0 rb rv (vw_fl rb eb)).1
      | tp db =>
        simp only [ea, eb] at e
        obtain ⟨q, vb, rfl, hq, rt⟩ := vw_tp rb eb
        cases rv
        obtain ⟨jts, r2, ht2, _⟩ := I.tuple hq
        obtain ⟨h1, h2⟩ := items_at r ih rs rt r1 r2 e
        have rc : RcAt A s (.ref p) (.ref q) c := by rw [h2]; exact RcAt.tuples ht ht2 hu0 h1
        refine ⟨?_, rc, by rw [h2]; exact RcNeAt.tuples ht ht2 hu0 h1⟩
        by_cases hpq : p = q
        · subst hpq
          rw [whole _ ra rb]
          exact .same _
        · exact .of_refs hpq rc
      | ls db =>
        simp only [ea, eb] at e; cases e
        obtain ⟨q, vb, rfl, hq, rt⟩ := vw_ls r rb eb
        cases rv
        obtain ⟨jts, r2, ht2, _⟩ := I.list hq
        exact ⟨.tuple_list ht ht2.isList hu0, .tuple_list ht ht2.isList hu0, .tuple_list ht ht2.isList hu0⟩
    | ls da =>
      obtain ⟨p, va, rfl, hp, rs⟩ := vw_ls r ra ea
      cases ru
      obtain ⟨its, r1, ht', _⟩ := I.list hp
      have ht := ht'.isList
      cases eb : vw b h with
      | no => simp [ea, eb] at e
      | fl => simp only [ea, eb] at e; cases e; exact (lst_flat ht hu0 rb rv (vw_fl rb eb)).1
      | tp db =>
        simp only [ea, eb] at e; cases e
        obtain ⟨q, vb, rfl, hq, rt⟩ := vw_tp rb eb
        cases rv
        obtain ⟨jts, r2, ht2, _⟩ := I.tuple hq
        exact ⟨.list_tuple ht ht2 hu0, .list_tuple ht ht2 hu0, .list_tuple ht ht2 hu0⟩
      | ls db =>
        simp only [ea, eb] at e
        obtain ⟨q, vb, rfl, hq, rt⟩ := vw_ls r rb eb
        cases rv
        obtain ⟨jts, r2, ht2', _⟩ := I.list hq
        have ht2 := ht2'.isList
        have l1 : its.toArray.size = da.length := by rw [List.size_toArray, ← r1.length, rs.length]
        have l2 : jts.toArray.size = db.length := by rw [List.size_toArray, ← r2.length, rt.length]
        have fin : RcAt A s (.ref p) (.ref q) c ∧ RcNeAt A s (.ref p) (.ref q) (!c) := by
          by_cases hl : da.length = db.length
          · rw [if_pos hl] at e
            obtain ⟨h1, h2⟩ := items_at r ih rs rt r1 r2 e
            have hsz : its.toArray.size = jts.toArray.size := by omega
            have h2' : c = (List.range its.toArray.size).all (fun (j : Nat) => (eqD k h (da.getD j .non) (db.getD j .non)).getD false) := by
              rw [h2, ← hsz, Nat.min_self]; simp
            exact ⟨by rw [h2']; exact RcAt.lists ht ht2 hsz hu0 h1, by rw [h2']; exact RcNeAt.lists ht ht2 hsz hu0 h1⟩
          · rw [if_neg hl] at e
            have e2 : c = false := (Option.some.inj e).symm
            have hsz : (its.toArray.size != jts.toArray.size) = true := by
              rw [l1, l2]; simpa using hl
            rw [e2]
            exact ⟨RcAt.lists_lengths ht ht2 hsz hu0, RcNeAt.lists_lengths ht ht2 hsz hu0⟩
        refine ⟨?_, fin⟩
        by_cases hpq : p = q
        · subst hpq
          rw [whole _ ra rb]
          exact .same _
        · exact .of_refs hpq fin.1
noncomputable abbrev eqN : Nat := 12
noncomputable def dEq : D → D → Hh → R D := fun a b h => match eqD eqN h a b with
  | some c => .ok (.bl c) h
  | none => .bad
noncomputable def dNe : D → D → Hh → R D := fun a b h => match eqD eqN h a b with
  | some c => .ok (.bl (!c)) h
  | none => .bad
noncomputable def rEqG (K : PySem.W.Frag) (g : GG) (neg : Bool) : R2 := fun x y H Q => ∃ α h a b c, HRel K g α H h ∧ RelD K g α H a x ∧ RelD K g α H b y ∧ eqD eqN h a b = some c ∧ Q (.bl (if neg then !c else c)) H
theorem op_eqG (hu : X.A.units + 64 < cLine) : OpR X (compareOp .Eq) (rEqG X.K g false) := by
  intro pins s σ H x y v u Q I rx ry ⟨α, h, a, b, c, r, ra, rb, e, q⟩
  exact (eqD_at I r eqN X.A a b x y v u c (by show X.A.units + 12 < _; omega) ra rb rx ry e).2.1 _ _ _ _ ⟨.bl c, H, I, rfl, q⟩
theorem op_neG (hu : X.A.units + 64 < cLine) : OpR X (compareOp .NotEq) (rEqG X.K g true) := by
  intro pins s σ H x y v u Q I rx ry ⟨α, h, a, b, c, r, ra, rb, e, q⟩
  exact (eqD_at I r eqN X.A a b x y v u c (by show X.A.units + 12 < _; omega) ra rb rx ry e).2.2 _ _ _ _ ⟨.bl (!c), H, I, rfl, q⟩
theorem im_eq {ε : EE} {K : PySem.W.Frag} : Imp2 K g ε dEq (rEqG K g false) := by
  intro α H h a b x y Q r ra rb w
  unfold dEq at w
  cases e : eqD eqN h a b with
  | none => simp only [e] at w; exact w.elim
  | some c => simp only [e] at w; exact ⟨α, h, a, b, c, r, ra, rb, e, Post.now w r (.bl _)⟩
theorem im_ne {ε : EE} {K : PySem.W.Frag} : Imp2 K g ε dNe (rEqG K g true) := by
  intro α H h a b x y Q r ra rb w
  unfold dNe at w
  cases e : eqD eqN h a b with
  | none => simp only [e] at w; exact w.elim
  | some c => simp only [e] at w; exact ⟨α, h, a, b, c, r, ra, rb, e, Post.now w r (.bl _)⟩
end
end L2.FE
namespace L2.FE
open PySem PySem.Spec PyProof.Rows
noncomputable def toPys (f : D → Option PyData) : List D → Option (List PyData)
  | [] => some []
  | d :: ds => match f d, toPys f ds with
    | some p, some ps => some (p :: ps)
    | _, _ => none
noncomputable def toPy : Nat → Hh → D → Option PyData
  | 0, _, _ => none
  | k + 1, h, d => match d with
    | .non => some .none
    | .bl b => some (.bool b)
    | .int i => if sml i = true then some (.int i) else none
    | .str x => if x.cps.toList.all (fun c => decide (c < 16 ^ 8)) = true then some (.str x) else none
    | .tup ds => (toPys (toPy k h) ds).map .tuple
    | .frl ds => (toPys (toPy k h) ds).map .list
    | .ref n => match lstOf h n with
      | some ds => (toPys (toPy k h) ds).map .list
      | none => none
    | _ => none
structure PyOk (k : Nat) (d : PyData) : Prop where
  sh : d.showable = true
  nd : d.hasDict = false
  dp : d.depth ≤ k
  lv : d.leavesShort 1921 = true
structure PysOk (k : Nat) (ds : List PyData) : Prop where
  sh : PyData.showableAll ds = true
  nd : PyData.hasDictAll ds = false
  dp : PyData.depthAll ds ≤ k
  lv : PyData.leavesShortAll 1921 ds = true
section
variable {K : PySem.W.Frag} {g : GG} {α : List Addr} {H : Hp} {h : Hh}
theorem toPys_ok {f : D → Option PyData} {k : Nat} (hf : ∀ d x p, RelD K g α H d x → f d = some p → RdD K H x p ∧ PyOk k p) : ∀ {ds : List D} {vs : List V} {ps : List PyData}, RelDs K g α H ds vs → toPys f ds = some ps →
    PysOk k ps ∧ vs.length = ps.length ∧ ∀ (i : Nat) x d, vs[i]? = some x → ps[i]? = some d → RdD K H x d
  | _, _, _, .nil, e => by
    cases e
    exact ⟨⟨by simp [PyData.showableAll], by simp [PyData.hasDictAll], by simp [PyData.depthAll], by simp [PyData.leavesShortAll]⟩, rfl, fun i x d h => by simp at h⟩
  | _, _, _, .cons r t, e => by
    unfold toPys at e
    split at e
    · rename_i p ps h1 h2
      cases e
      obtain ⟨a1, a2⟩ := hf _ _ _ r h1
      obtain ⟨b1, b2, b3⟩ := toPys_ok hf t h2
      refine ⟨⟨by rw [PyData.showableAll, a2.sh, b1.sh]; rfl, by rw [PyData.hasDictAll, a2.nd, b1.nd]; rfl, by rw [PyData.depthAll]; exact Nat.max_le.mpr ⟨a2.dp, b1.dp⟩, by rw [PyData.leavesShortAll, a2.lv, b1.lv]; rfl⟩, by simp [b2], fun i x d hx hd => ?_⟩
      cases i with
      | zero => simp at hx hd; subst hx hd; exact a1
      | succ i => exact b3 i x d (by simpa using hx) (by simpa using hd)
    · cases e
theorem toPy_ok (r : HRel K g α H h) : ∀ (k : Nat) (d : D) (x : V) (p : PyData), RelD K g α H d x → toPy k h d = some p → RdD K H x p ∧ PyOk k p
  | 0, _, _, _, _, e => by cases e
  | k + 1, d, x, p, rd, e => by
    unfold toPy at e
    cases rd with
    | non => cases e; exact ⟨.non, by simp [PyData.showable], by simp [PyData.hasDict], by simp [PyData.depth], by simp [PyData.leavesShort]⟩
    | bl b => cases e; exact ⟨.bl b, by simp [PyData.showable], by simp [PyData.hasDict], by simp [PyData.depth], by simp [PyData.leavesShort]⟩
    | int i =>
      simp only at e
      split at e
      · rename_i hs
        cases e
        have hl : i.natAbs.log2 < 1920 := Nat.lt_trans (sml_log hs) (by decide)
        exact ⟨.int i, by simp [PyData.showable, hl], by simp [PyData.hasDict], by simp [PyData.depth], by simp only [PyData.leavesShort, decide_eq_true_eq]; exact int_text_len_1921 hl⟩
      · cases e
    | str z =>
      simp only at e
      split at e
      · rename_i hs
        cases e
        exact ⟨.str z, by simp [PyData.showable], by simp [PyData.hasDict], by simp [PyData.depth], by simpa only [PyData.leavesShort] using hs⟩
      · cases e
    | tup hp rs =>
      simp only at e
      cases e1 : toPys (toPy k h) _ with
      | none => rw [e1] at e; cases e
      | some ps =>
        rw [e1] at e
        cases e
        obtain ⟨b1, b2, b3⟩ := toPys_ok (fun d x p => toPy_ok r k d x p) rs e1
        exact ⟨.tup (SqT.of hp) b2 b3, by rw [PyData.showable]; exact b1.sh, by rw [PyData.hasDict]; exact b1.nd, by rw [PyData.depth]; exact Nat.succ_le_succ b1.dp, by rw [PyData.leavesShort]; exact b1.lv⟩
    | @ref n p hp =>
      simp only at e
      cases el : lstOf h n with
      | none => rw [el] at e; cases e
      | some ds =>
        rw [el] at e
        simp only at e
        obtain ⟨vs, hv, rs⟩ := r.lst el hp
        cases e1 : toPys (toPy k h) ds with
        | none => rw [e1] at e; cases e
        | some ps =>
          rw [e1] at e
          cases e
          obtain ⟨b1, b2, b3⟩ := toPys_ok (fun d x p => toPy_ok r k d x p) rs e1
          exact ⟨.lst (SqL.of hv) b2 b3, by rw [PyData.showable]; exact b1.sh, by rw [PyData.hasDict]; exact b1.nd, by rw [PyData.depth]; exact Nat.succ_le_succ b1.dp, by rw [PyData.leavesShort]; exact b1.lv⟩
    | frl hp rs =>
      simp only at e
      cases e1 : toPys (toPy k h) _ with
      | none => rw [e1] at e; cases e
      | some ps =>
        rw [e1] at e
        cases e
        obtain ⟨b1, b2, b3⟩ := toPys_ok (fun d x p => toPy_ok r k d x p) rs e1
        exact ⟨.lst hp.sq b2 b3, by rw [PyData.showable]; exact b1.sh, by rw [PyData.hasDict]; exact b1.nd, by rw [PyData.depth]; exact Nat.succ_le_succ b1.dp, by rw [PyData.leavesShort]; exact b1.lv⟩
    | fn _ => cases e
    | edic _ => cases e
    | exc _ _ _ _ _ => cases e
    | scr _ _ => cases e
end
noncomputable def repD (d : D) (h : Hh) : R D := match toPy 12 h d with
  | some p => if p.bulk ≤ 8000 then .ok (.str p.shown) h else .bad
  | none => .bad
noncomputable def dRepr : List D → Hh → R D := fun ds h => match ds with
  | [.int i] => if sml i = true then .ok (.str (toString i)) h else .bad
  | [.tup ds] => repD (.tup ds) h
  | [.ref n] => repD (.ref n) h
  | [.frl ds] => repD (.frl ds) h
  | _ => .bad
section
variable {X : Cx} {K : PySem.W.Frag} {g : GG} {ε : EE}
noncomputable abbrev rrRepr (K : PySem.W.Frag) : List V → Hp → VK → Prop := fun vs H Q => (∃ p d, vs = [.ref p] ∧ RdD K H (.ref p) d ∧ d.showable = true ∧ d.hasDict = false ∧ d.depth ≤ 60 ∧ d.shown.length ≤ sizeLine ∧ Q (.str d.shown) H) ∨ ∃ i, vs = [.int i] ∧ i.natAbs.log2 < 1920 ∧ Q (.str (toString i)) H
theorem or_repr (hg : X.A.guards = some []) (hu : X.A.units + 64 < cLine) : CallR X (.builtin "repr") (rrRepr X.K) := CallR.or (call_repr hg hu) call_reprI
theorem im_repr : ImpL K g ε dRepr (rrRepr K) := by
  intro α H h a x Q r ra w
  unfold dRepr at w
  cases ra with
  | nil => exact w.elim
  | cons rd rr =>
    cases rr with
    | cons _ _ => cases rd <;> exact w.elim
    | nil =>
      have gen : ∀ {d : D} {v : V}, RelD K g α H d v → (∃ p, v = .ref p) → WQ K g ε α H (repD d h) (Post K g α H Q) → rrRepr K [v] H Q := by
        intro d v rd ⟨p, hp⟩ w
        subst hp
        unfold repD at w
        cases e : toPy 12 h d with
        | none => simp only [e] at w; exact w.elim
        | some pd =>
          simp only [e] at w
          obtain ⟨hb, w⟩ := WQ.iteP w
          obtain ⟨q1, q2⟩ := toPy_ok r 12 d _ pd rd e
          have := PyData.shown_le_bulk 1921 (by decide) pd q2.lv
          exact .inl ⟨p, pd, rfl, q1, q2.sh, q2.nd, Nat.le_trans q2.dp (by decide), by rw [sizeLine_eq]; omega, Post.now w r (.str _)⟩
      cases rd with
      | int i =>
        obtain ⟨hs, w⟩ := WQ.iteP w
        exact .inr ⟨i, rfl, Nat.lt_trans (sml_log hs) (by decide), Post.now w r (.str _)⟩
      | tup hp rs => exact gen (.tup hp rs) ⟨_, rfl⟩ w
      | ref hp => exact gen (.ref hp) ⟨_, rfl⟩ w
      | frl hp rs => exact gen (.frl hp rs) ⟨_, rfl⟩ w
      | _ => exact w.elim
noncomputable def dLen : List D → Hh → R D := fun ds h => match ds with
  | [.tup ds] => .ok (.int ds.length) h
  | [.frl ds] => .ok (.int ds.length) h
  | [.scr ds] => .ok (.int ds.length) h
  | [.str x] => if x.length ≤ 1000000 then .ok (.int x.length) h else .bad
  | [.ref n] => match h[n]? with
    | some (.lst ds) => .ok (.int ds.length) h
    | some (.set k) => .ok (.int k.length) h
    | _ => .bad
  | _ => .bad
noncomputable abbrev rrLen (K : PySem.W.Frag) : List V → Hp → VK → Prop := fun xs H Q => (∃ p ys, xs = [.ref p] ∧ (SqL K H p ys ∨ SqT K H p ys) ∧ Q (.int ys.length) H) ∨ (∃ p S n, xs = [.ref p] ∧ H p = some (.set S n) ∧ Q (.int n) H) ∨ ∃ z, xs = [.str z] ∧ z.length ≤ sizeLine ∧ Q (.int z.length) H
theorem or_len : CallR X (.builtin "len") (rrLen X.K) := CallR.or call_len_seq (CallR.or call_len_setO call_len_str)
theorem one_of {α : List Addr} {H : Hp} {h : Hh} {ds : List D} {vs : List V} {f : List D → Hh → R D} {Q : VK} (hf : ∀ d e r h, f (d :: e :: r) h = .bad) (hf0 : ∀ h, f [] h = .bad) (rs : RelDs K g α H ds vs) (w : WQ K g ε α H (f ds h) (Post K g α H Q)) : ∃ d v, ds = [d] ∧ vs = [v] ∧ RelD K g α H d v := by
  cases rs with
  | nil => rw [hf0] at w; exact w.elim
  | cons r t =>
    cases t with
    | nil => exact ⟨_, _, rfl, rfl, r⟩
    | cons _ _ => rw [hf] at w; exact w.elim
theorem im_len : ImpL K g ε dLen (rrLen K) := by
  intro α H h a x Q r ra w
  obtain ⟨d, v, rfl, rfl, rd⟩ := one_of (f := dLen) (fun d _ _ _ => by cases d <;> rfl) (fun _ => rfl) ra w
  unfold dLen at w
  cases rd with
  | tup hp rs => exact .inl ⟨_, _, rfl, .inr (SqT.of hp), Post.now w r (by rw [← rs.length]; exact .int _)⟩
  | frl hp rs => exact .inl ⟨_, _, rfl, .inl hp.sq, Post.now w r (by rw [← rs.length]; exact .int _)⟩
  | scr hp rs => exact .inl ⟨_, _, rfl, .inl hp.sq, Post.now w r (by rw [← rs.length]; exact .int _)⟩
  | str z =>
    obtain ⟨hl, w⟩ := WQ.iteP w
    exact .inr (.inr ⟨z, rfl, line_of hl, Post.now w r (.int _)⟩)
  | @ref n p hp =>
    simp only at w
    cases e : h[n]? with
    | none => rw [e] at w; exact w.elim
    | some o =>
      rw [e] at w
      have q := r.here n p o hp e
      cases o with
      | lst ds => obtain ⟨vs, hv, rs⟩ := q; exact .inl ⟨p, vs, rfl, .inl (SqL.of hv), Post.now w r (by rw [← rs.length]; exact .int _)⟩
      | set k => exact .inr (.inl ⟨p, _, _, rfl, q, Post.now w r (.int _)⟩)
      | dic k => exact w.elim
      | dit k => exact w.elim
  | _ => exact w.elim
noncomputable def intsOf : List D → Option (List Int)
  | [] => some []
  | .int i :: ds => (intsOf ds).map (i :: ·)
  | _ :: _ => none
theorem intsOf_some : ∀ {ds : List D} {ns : List Int}, intsOf ds = some ns → ds = ns.map D.int
  | [], ns, e => by cases e; rfl
  | .int i :: ds, ns, e => by
    unfold intsOf at e
    cases e1 : intsOf ds with
    | none => rw [e1] at e; cases e
    | some ms => rw [e1] at e; cases e; rw [intsOf_some e1]; rfl
  | .non :: _, _, e => by cases e
  | .bl _ :: _, _, e => by cases e
  | .str _ :: _, _, e => by cases e
  | .tup _ :: _, _, e => by cases e
  | .frl _ :: _, _, e => by cases e
  | .ref _ :: _, _, e => by cases e
  | .fn _ :: _, _, e => by cases e
  | .edic :: _, _, e => by cases e
  | .exc _ _ :: _, _, e => by cases e
  | .scr _ :: _, _, e => by cases e
theorem intsOf_map : ∀ (ns : List Int), intsOf (ns.map D.int) = some ns
  | [] => rfl
  | n :: r => by rw [List.map_cons, intsOf, intsOf_map r]; rfl
noncomputable def dMax2 : List D → Hh → R D := fun ds h => match ds with
  | [.int i, .int j] => .ok (.int (if j > i then j else i)) h
  | _ => .bad
theorem two_ints {α : List Addr} {H : Hp} {h : Hh} {ds : List D} {vs : List V} {t : Int → Int → Int} {Q : VK} (r : HRel K g α H h) (rs : RelDs K g α H ds vs) (w : WQ K g ε α H (match ds with | [.int i, .int j] => .ok (.int (t i j)) h | _ => .bad) (Post K g α H Q)) : ∃ i j, vs = [.int i, .int j] ∧ Q (.int (t i j)) H := by
  split at w
  · cases rs with
    | cons r1 t1 =>
      cases r1
      cases t1 with
      | cons r2 t2 =>
        cases r2
        cases t2
        exact ⟨_, _, rfl, Post.now w r (.int _)⟩
  · exact w.elim
theorem im_max2 : ImpL K g ε dMax2 (fun xs H Q => ∃ i j, xs = [.int i, .int j] ∧ Q (.int (if j > i then j else i)) H) := fun α H h a x Q r ra w => two_ints (t := fun i j => if j > i then j else i) r ra w
noncomputable def dInt : List D → Hh → R D := fun ds h => match ds with
  | [.int i] => .ok (.int i) h
  | [.bl b] => .ok (.int (if b then 1 else 0)) h
  | _ => .bad
theorem im_int : ImpL K g ε dInt (fun xs H Q => (∃ i, xs = [.int i] ∧ Q (.int i) H) ∨ ∃ k, xs = [.bl k] ∧ Q (.int (if k then 1 else 0)) H) := by
  intro α H h a x Q r ra w
  obtain ⟨d, v, rfl, rfl, rd⟩ := one_of (f := dInt) (fun d _ _ _ => by cases d <;> rfl) (fun _ => rfl) ra w
  unfold dInt at w
  cases rd with
  | int i => exact .inl ⟨i, rfl, Post.now w r (.int _)⟩
  | bl b => exact .inr ⟨b, rfl, Post.now w r (.int _)⟩
  | _ => exact w.elim
noncomputable def tyD (d : D) (h : Hh) : Option String := match d with
  | .non => some "NoneType"
  | .bl _ => some "bool"
  | .int _ => some "int"
  | .str _ => some "str"
  | .tup _ => some "tuple"
  | .frl _ => some "list"
  | .edic => some "dict"
  | .ref n => match h[n]? with
    | some (.lst _) => some "list"
    | some (.dic _) => some "dict"
    | some (.dit _) => some "dict"
    | _ => none
  | _ => none
noncomputable def subTy (t n : String) : Option Bool :=
  if n = "int" then (if t = "int" then some true else if t = "bool" then some true else if t = "NoneType" ∨ t = "str" ∨ t = "tuple" ∨ t = "list" ∨ t = "dict" then some false else none)
  else if n = "bool" ∨ n = "tuple" ∨ n = "list" ∨ n = "str" then (if t = n then some true else if t = "int" ∨ t = "bool" ∨ t = "NoneType" ∨ t = "str" ∨ t = "tuple" ∨ t = "list" ∨ t = "dict" then some false else none)
  else none
noncomputable def dIsI (n : String) : D → Hh → R D := fun d h => match tyD d h with
  | some t => match subTy t n with
    | some b => .ok (.bl b) h
    | none => .bad
  | none => .bad
theorem ty_of {α : List Addr} {H : Hp} {h : Hh} {d : D} {v : V} {t : String} (r : HRel K g α H h) (rd : RelD K g α H d v) (e : tyD d h = some t) : TyOf K H v (.type t) := by
  unfold tyD at e
  cases rd with
  | non => cases e; exact .non
  | bl b => cases e; exact .bl b
  | int i => cases e; exact .int i
  | str i => cases e; exact .str i
  | tup hp rs => cases e; exact .tup hp
  | frl hp rs => cases e; obtain ⟨o, hp⟩ := hp; exact .frz hp
  | edic hp => cases e; exact .frzD hp
  | @ref n p hp =>
    simp only at e
    cases eo : h[n]? with
    | none => rw [eo] at e; cases e
    | some o =>
      rw [eo] at e
      have q := r.here n p o hp eo
      cases o with
      | lst ds => cases e; obtain ⟨vs, hv, _⟩ := q; exact .lst hv
      | set k => cases e
      | dic k => cases e; obtain ⟨vs, hv, _⟩ := q; exact .dK hv
      | dit k => cases e; obtain ⟨vs, hv, _⟩ := q; exact .dT hv
  | _ => cases e
theorem kit_int (K : PySem.W.Frag) : PySem.W.kitOne K (.type "int") (.type "int") = some true ∧ PySem.W.kitOne K (.type "bool") (.type "int") = some true ∧ PySem.W.kitOne K (.type "NoneType") (.type "int") = some false ∧ PySem.W.kitOne K (.type "str") (.type "int") = some false
    ∧ PySem.W.kitOne K (.type "tuple") (.type "int") = some false ∧ PySem.W.kitOne K (.type "list") (.type "int") = some false ∧ PySem.W.kitOne K (.type "dict") (.type "int") = some false := ⟨rfl, rfl, rfl, rfl, rfl, rfl, rfl⟩
theorem kit_bool (K : PySem.W.Frag) : PySem.W.kitOne K (.type "int") (.type "bool") = some false ∧ PySem.W.kitOne K (.type "bool") (.type "bool") = some true ∧ PySem.W.kitOne K (.type "NoneType") (.type "bool") = some false ∧ PySem.W.kitOne K (.type "str") (.type "bool") = some false
    ∧ PySem.W.kitOne K (.type "tuple") (.type "bool") = some false ∧ PySem.W.kitOne K (.type "list") (.type "bool") = some false ∧ PySem.W.kitOne K (.type "dict") (.type "bool") = some false := ⟨rfl, rfl, rfl, rfl, rfl, rfl, rfl⟩
theorem kit_tuple (K : PySem.W.Frag) : PySem.W.kitOne K (.type "int") (.type "tuple") = some false ∧ PySem.W.kitOne K (.type "bool") (.type "tuple") = some false ∧ PySem.W.kitOne K (.type "NoneType") (.type "tuple") = some false ∧ PySem.W.kitOne K (.type "str") (.type "tuple") = some false
    ∧ PySem.W.kitOne K (.type "tuple") (.type "tuple") = some true ∧ PySem.W.kitOne K (.type "list") (.type "tuple") = some false ∧ PySem.W.kitOne K (.type "dict") (.type "tuple") = some false := ⟨rfl, rfl, rfl, rfl, rfl, rfl, rfl⟩
theorem kit_list (K : PySem.W.Frag) : PySem.W.kitOne K (.type "int") (.type "list") = some false ∧ PySem.W.kitOne K (.type "bool") (.type "list") = some false ∧ PySem.W.kitOne K (.type "NoneType") (.type "list") = some false ∧ PySem.W.kitOne K (.type "str") (.type "list") = some false
    ∧ PySem.W.kitOne K (.type "tuple") (.type "list") = some false ∧ PySem.W.kitOne K (.type "list") (.type "list") = some true ∧ PySem.W.kitOne K (.type "dict") (.type "list") = some false := ⟨rfl, rfl, rfl, rfl, rfl, rfl, rfl⟩
theorem kit_str (K : PySem.W.Frag) : PySem.W.kitOne K (.type "int") (.type "str") = some false ∧ PySem.W.kitOne K (.type "bool") (.type "str") = some false ∧ PySem.W.kitOne K (.type "NoneType") (.type "str") = some false ∧ PySem.W.kitOne K (.type "str") (.type "str") = some true
    ∧ PySem.W.kitOne K (.type "tuple") (.type "str") = some false ∧ PySem.W.kitOne K (.type "list") (.type "str") = some false ∧ PySem.W.kitOne K (.type "dict") (.type "str") = some false := ⟨rfl, rfl, rfl, rfl, rfl, rfl, rfl⟩
theorem kit_of {t n : String} {b : Bool} (e : subTy t n = some b) : PySem.W.kitOne K (.type t) (.type n) = some b := by
  unfold subTy at e
  obtain ⟨a1, a2, a3, a4, a5, a6, a7⟩ := kit_int K
  obtain ⟨b1, b2, b3, b4, b5, b6, b7⟩ := kit_bool K
  obtain ⟨c1, c2, c3, c4, c5, c6, c7⟩ := kit_tuple K
  obtain ⟨d1, d2, d3, d4, d5, d6, d7⟩ := kit_list K
  obtain ⟨e1, e2, e3, e4, e5, e6, e7⟩ := kit_str K
  split at e
  · rename_i hn; subst hn
    split at e
    · rename_i h; subst h; cases e; exact a1
    · split at e
      · rename_i h; subst h; cases e; exact a2
      · split at e
        · rename_i h; cases e; rcases h with rfl | rfl | rfl | rfl | rfl <;> assumption
        · cases e
  · split at e
    · rename_i hn
      split at e
      · rename_i h; subst h; cases e; rcases hn with rfl | rfl | rfl | rfl <;> assumption
      · rename_i hne
        split at e
        · rename_i h; cases e; rcases hn with rfl | rfl | rfl | rfl <;> rcases h with rfl | rfl | rfl | rfl | rfl | rfl | rfl <;> first | assumption | exact absurd rfl hne
        · cases e
    · cases e
theorem se_isi {e : Expr} {me : ME} {n : String} {x : Str} {p1 p2 pos : Pos} (he : PE X e (tM X.K g ε me)) (hg : Gl X "isinstance") (hm : X.mg "isinstance" = none) (hg2 : Gl X x) (hm2 : X.mg x = none) (hb : bootBuiltins x = some (.type n)) (hn : x ≠ "__name__" := by decide) (hd : (x == ("__debug__" : Str)) = false := by decide)
    (hs1 : starEach [e, .Name x p2] X.env = (false, eval e X.env) :: starEach [.Name x p2] X.env := by rfl) (hs2 : starEach [.Name x p2] X.env = [(false, eval (.Name x p2) X.env)] := by rfl) (hpl : (backTo pos (starEach [.Name x p2] X.env)).any (·.1) = false := by rfl) :
    PE X (.Call (.Name "isinstance" p1) [e, .Name x p2] [] pos) (tM X.K g ε (cUn (dIsI n) me)) :=
  PE.imp (pe_callB call_isinst hg hm PyProof.Rows.boot_isinstance (pa_cons he (pa_cons (pe_bltn (v := .ty n) hg2 hm2 hb rfl hn hd) pa_nil hs2) hs1) (by decide) (by decide) hs1 hpl) fun σ H Q ⟨α, env, h, s, w⟩ => tM.use s w.bind fun d1 h1 v1 H1 α1 e1 s1 r1 w1 => by
    unfold dIsI at w1
    cases et : tyD d1 h1 with
    | none => simp only [et] at w1; exact w1.elim
    | some t =>
      simp only [et] at w1
      cases es : subTy t n with
      | none => simp only [es] at w1; exact w1.elim
      | some b =>
        simp only [es] at w1
        exact ⟨v1, .type t, n, b, rfl, ty_of s1.heap r1 et, kit_of es, Post.now (Post.ext e1 w1) s1.heap (.bl b)⟩
end
end L2.FE
namespace L2.FE
open PySem PySem.Spec PyProof.Rows
section
variable {X : Cx} {K : PySem.W.Frag} {g : GG} {ε : EE}
noncomputable def dTru : D → Hh → R Bool := fun d h => match d with
  | .non => .ok false h
  | .bl b => .ok b h
  | .int i => .ok (i != 0) h
  | .tup ds => .ok (!ds.isEmpty) h
  | .frl ds => .ok (!ds.isEmpty) h
  | .ref n => match lstOf h n with
    | some ds => .ok (!ds.isEmpty) h
    | none => .bad
  | _ => .bad
theorem RelDs.isEmpty {α : List Addr} {H : Hp} {ds : List D} {vs : List V} (r : RelDs K g α H ds vs) : ds.isEmpty = vs.isEmpty := by cases r <;> rfl
theorem im_tru : ImpT K g ε dTru (fun x H Q => ∃ k, TruV K x H k ∧ Q k H) := by
  intro α H h a x Q r ra w
  unfold dTru at w
  have now : ∀ {b : Bool}, PostT K g α H Q b h → Q b H := fun p => p H α Ext.refl r
  cases ra with
  | non => exact ⟨false, rfl, now w⟩
  | bl b => exact ⟨b, rfl, now w⟩
  | int i => exact ⟨_, rfl, now w⟩
  | tup hp rs => exact ⟨_, .inr (.inl ⟨_, SqT.of hp, rfl⟩), now (by rw [← rs.isEmpty]; exact w)⟩
  | frl hp rs => exact ⟨_, .inl ⟨_, hp.sq, rfl⟩, now (by rw [← rs.isEmpty]; exact w)⟩
  | @ref n p hp =>
    simp only at w
    cases e : lstOf h n with
    | none => rw [e] at w; exact w.elim
    | some ds =>
      rw [e] at w
      obtain ⟨vs, hv, rs⟩ := r.lst e hp
      exact ⟨_, .inl ⟨vs, SqL.of hv, rfl⟩, now (by rw [← rs.isEmpty]; exact w)⟩
  | _ => exact w.elim
section
variable {e : Expr} {es : List Expr} {mr : MA} {p1 p2 q1 q2 : Pos}
end
noncomputable def isL (d : D) (h : Hh) : Bool := match d with
  | .ref n => (lstOf h n).isSome
  | .frl _ => true
  | _ => false
noncomputable def cMethL (f : D → List D → Hh → R D) (o : ME) (a : MA) : ME := fun env h => (o env h).bind fun x h1 => if isL x h1 = true then (a env h1).bind fun xs h2 => f x xs h2 else .bad
theorem isL_rel {α : List Addr} {H : Hp} {h : Hh} {d : D} {x : V} (r : HRel K g α H h) (rd : RelD K g α H d x) (e : isL d h = true) : tyV K "list" x H := by
  unfold isL at e
  cases rd with
  | @ref n p hp =>
    simp only at e
    obtain ⟨ds, e⟩ := Option.isSome_iff_exists.mp e
    obtain ⟨vs, hv, _⟩ := r.lst e hp
    exact .inl ⟨rfl, vs, SqL.of hv⟩
  | frl hq rs => exact .inl ⟨rfl, _, hq.sq⟩
  | _ => cases e
theorem se_bmL {o e : Expr} {es : List Expr} {mo : ME} {mr : MA} {name : Str} {apos cpos : Pos} {id : String} {r : V → List V → Hp → VK → Prop} {f : D → List D → Hh → R D} (slot : Slot "list" name id) (hty : typeOf (.builtin id) = pure (.type "method_descriptor")) (hm : MtM X id r) (im : ImpM X.K g ε f r) (ho : PE X o (tM X.K g ε mo)) (ha : PA X (e :: es) (tMA X.K g ε mr))
    (hbase : attributeBase o name X.env (eval o X.env) = eval o X.env := by rfl)
    (hfew : ((backTo cpos (starEach (e :: es) X.env)).all (fun x => !x.1) && (backToKw cpos (keywordEach [] X.env)).all (fun x => x.1.isSome)
      && decide ((e :: es).length + ([] : List Keyword).length + (if ([] : List Keyword).isEmpty then 0 else 1) < 30)) = true := by rfl)
    (hline : (apos.endLine == cpos.line) = true := by rfl) (hs : starEach (e :: es) X.env = (false, eval e X.env) :: starEach es X.env := by rfl) (hplain : (backTo cpos (starEach es X.env)).any (·.1) = false := by rfl) :
    PE X (.Call (.Attribute o name apos) (e :: es) [] cpos) (tM X.K g ε (cMethL f mo mr)) :=
  PE.imp (pe_bm PySem.F.plainAttrs_list slot hty hm ho ha hbase hfew hline hs hplain) fun σ H Q ⟨α, env, h, s, w⟩ => tM.use s w.bind fun d1 h1 v1 H1 α1 e1 s1 r1 w1 => by
    obtain ⟨hl, w1⟩ := WQ.iteP w1
    refine ⟨isL_rel s1.heap r1 hl, tMA.use s1 (w1.ext e1).bind fun d2 h2 v2 H2 α2 e2 s2 r2 w2 => ?_⟩
    exact im α2 H2 h2 d1 d2 v1 v2 Q s2.heap (r1.ext e2) r2 ((w2.ext e2).mono fun _ _ _ p => Post.ext (e1.trans e2) p)
noncomputable def dAppend : D → List D → Hh → R D := fun o ds h => match o, ds with
  | .ref n, [d] => match lstOf h n with
    | some xs => if xs.length < 1000000 then .ok .non (h.set n (.lst (xs ++ [d]))) else .bad
    | none => .bad
  | _, _ => .bad
theorem im_append : ImpM K g ε dAppend rAppend := by
  intro α H h o a y x Q r ro ra w
  unfold dAppend at w
  cases ro with
  | @ref n p hp =>
    cases ra with
    | nil => exact w.elim
    | @cons d v _ _ rd rr =>
      cases rr with
      | cons _ _ => exact w.elim
      | nil =>
        simp only at w
        cases e : lstOf h n with
        | none => rw [e] at w; exact w.elim
        | some xs =>
          rw [e] at w
          obtain ⟨hl, w⟩ := WQ.iteP w
          obtain ⟨vs, hv, rs⟩ := r.lst e hp
          refine ⟨p, vs, _, rfl, rfl, hv, by rw [← rs.length, sizeLine_eq]; omega, ?_⟩
          have x := Ext.write (o := .lst (vs ++ [v])) r hp
          exact (show Post K g α H Q _ _ from w) _ _ α x (r.write hp ⟨_, upd_same, (rs.append (.cons rd .nil)).ext x⟩) .non
  | _ => exact w.elim
noncomputable def rExtendR : V → List V → Hp → VK → Prop := fun x vs H Q => ∃ l b xs zs, x = .ref l ∧ vs = [.ref b] ∧ H l = some (.lst xs) ∧ Rd H b (.lst zs) ∧ xs.length + zs.length ≤ sizeLine ∧ Q .non (upd H l (.lst (xs ++ zs)))
theorem mt_extendR : MtM X "list.extend" rExtendR := by
  intro pins s σ H x vs v us Q I rx rv h
  obtain ⟨l, b, xs, zs, rfl, rfl, hH, hB, hz, q⟩ := h
  cases rx
  obtain ⟨u, rfl, ru⟩ := rv.one
  cases ru
  obtain ⟨z, its, n, r, hl, e⟩ := I.lstM hH
  obtain ⟨its2, n2, z2, r2, hl2, e2⟩ := lstR I hB
  have hsz : its.toArray.size + its2.toArray.size ≤ sizeLine := by rw [List.size_toArray, List.size_toArray]; omega
  have hlong : ¬ (!its.toArray.isEmpty && Builtin.List.listTooLong (its.toArray.size + its2.toArray.size)) = true := by
    rw [notLongL hsz, Bool.and_false]
    exact Bool.false_ne_true
  refine call_meets F.slot_list_extend ⟨_, e, rfl⟩ F.entry_list_extend (F.args_list_extend_2 _ _)
    (AutoSeq1.list_extend_list_list_0 l its.toArray n b its2.toArray n2 hlong (by rw [List.size_toArray]; omega) (by omega)) ⟨e, e2, ?_⟩
  refine ⟨.non, _, I.lset (its' := its ++ its2) hH e (by simp) (r.append r2) ?_, rfl, q⟩
  rw [List.length_append]
  omega
noncomputable def dExtend : D → List D → Hh → R D := fun o ds h => match o, ds with
  | .ref n, [d] => match lstOf h n, lsOf d h with
    | some xs, some ys => if xs.length + ys.length ≤ 1000000 then .ok .non (h.set n (.lst (xs ++ ys))) else .bad
    | _, _ => .bad
  | _, _ => .bad
theorem im_extend : ImpM K g ε dExtend rExtendR := by
  intro α H h o a y x Q r ro ra w
  unfold dExtend at w
  cases ro with
  | @ref n p hp =>
    cases ra with
    | nil => exact w.elim
    | cons rd rr =>
      cases rr with
      | cons _ _ => exact w.elim
      | nil =>
        simp only at w
        cases e : lstOf h n with
        | none => rw [e] at w; exact w.elim
        | some xs =>
          rw [e] at w
          cases e2 : lsOf _ h with
          | none => rw [e2] at w; exact w.elim
          | some ys =>
            rw [e2] at w
            obtain ⟨hl, w⟩ := WQ.iteP w
            obtain ⟨vs, hv, rs⟩ := r.lst e hp
            obtain ⟨q, us, rfl, hu, rt⟩ := ls_rel r rd e2
            refine ⟨p, q, vs, us, rfl, rfl, hv, hu, line_of (by rw [← rs.length, ← rt.length]; exact hl), ?_⟩
            have x := Ext.write (o := .lst (vs ++ us)) r hp
            exact (show Post K g α H Q _ _ from w) _ _ α x (r.write hp ⟨_, upd_same, (rs.append rt).ext x⟩) .non
  | _ => exact w.elim
theorem preSum_list (ns : List Int) : ∀ k, k ≤ ns.length → preSum (fun i => ns.getD i 0) k = (ns.take k).sum
  | 0, _ => by simp [preSum]
  | k + 1, h => by
    rw [preSum, preSum_list ns k (by omega), List.take_succ, List.sum_append]
    rw [List.getD_eq_getElem?_getD, List.getElem?_eq_getElem (by omega)]
    simp
theorem call_sumL (hc : X.calm = true) : CallR X (.builtin "sum") (fun vs H Q => ∃ (p : Addr) (ns : List Int), vs = [.ref p] ∧ (SqL X.K H p (ns.map V.int) ∨ SqT X.K H p (ns.map V.int)) ∧ Q (.int ns.sum) H) := by
  intro pins s σ H xs us Q I r h
  obtain ⟨p, ns, rfl, hq, q⟩ := h
  obtain ⟨u, rfl, rx⟩ := vals1 r
  cases rx
  have hh : X.A.in1.handled = none := I.ok.hd hc
  have fin : ∀ {its : List Value} {o : Obj}, Vals (ns.map V.int) its → ∀ s', Moved [s.heap.objs.size] (fun a b => b = a) { s with heap := s.heap.push o } s' → ∀ t', EP X pins σ Q (.int (preSum (fun i => ns.getD i 0) its.toArray.size) t') s' := fun {its o} rv s' mv t' => by
    have hl : its.toArray.size = ns.length := by rw [List.size_toArray, ← rv.length, List.length_map]
    have keep : ∀ b u, s.heap.get? b = some u → s'.heap.get? b = some u := fun b u e => mv.heap b u (by simp; exact Nat.ne_of_lt (Heap.lt_size e)) (Heap.get?_push_of_some _ e)
    have I' : Inv X pins σ H s' := by
      obtain ⟨hp, gs, dr, tk, os⟩ := s'
      have e1 : gs = s.gens := mv.gens
      have e2 : dr = s.drawn := mv.drawn
      have e3 : os = s.os := mv.os
      subst e1 e2 e3
      exact I.kept (h' := hp) (t' := tk) keep
    refine ⟨.int ns.sum, H, I', ⟨t', ?_⟩, q⟩
    rw [hl, preSum_list ns _ (Nat.le_refl _), List.take_length]
  have val : ∀ {its : List Value}, Vals (ns.map V.int) its → ∀ i v, its.toArray[i]? = some v → ∃ t : Tok, v = Value.int (ns.getD i 0) t := fun {its} rv i v e => by
    obtain ⟨x, hx, rxv⟩ := rv.get' (show its[i]? = some v by simpa using e)
    rw [List.getElem?_map] at hx
    cases en : ns[i]? with
    | none => rw [en] at hx; cases hx
    | some z =>
      rw [en] at hx
      cases hx
      obtain ⟨t, e⟩ := rxv
      exact ⟨t, by rw [List.getD_eq_getElem?_getD, en]; exact e⟩
  rcases hq with hq | hq
  · obtain ⟨its, rv, pl, hz⟩ := I.list hq
    have plt : p < s.heap.objs.size := by obtain ⟨o, e, _⟩ := pl.isList; exact Heap.lt_size e
    have hne : p ≠ s.heap.objs.size := Nat.ne_of_lt plt
    refine call_sum_walkAnyS (wpAny_pyIter_list pl.isList ?_)
    refine ⟨s.heap.objs.size, _, _, _, its.toArray.size, _, _, fun i => ns.getD i 0, rfl, (Walks.list (prog := X.prog) (w := X.w) hh s.heap.objs.size p hne its.toArray).toS, ⟨⟨_, Heap.get?_push_size _ rfl, rfl, rfl⟩, ?_⟩, fun b hb => ?_, val rv, fun s' t' mv => fin rv s' mv t'⟩
    · exact pl.isList.at fun o e => Heap.get?_push_of_some _ e
    · simp at hb
      rcases hb with rfl | rfl
      · exact Heap.lt_size (Heap.get?_push_size _ rfl)
      · exact Nat.lt_trans plt (Heap.lt_size (Heap.get?_push_size _ rfl))
  · obtain ⟨its, rv, pl, hz⟩ := I.tuple hq
    have pt : s.heap.IsTuple p its.toArray := pl
    have hne : p ≠ s.heap.objs.size := Nat.ne_of_lt pl.lt
    refine call_sum_walkAnyS (wpAny_pyIter_tuple pt ?_)
    refine ⟨s.heap.objs.size, _, _, _, its.toArray.size, _, _, fun i => ns.getD i 0, rfl, (Walks.tuple (prog := X.prog) (w := X.w) hh s.heap.objs.size p hne its.toArray).toS, ⟨⟨_, Heap.get?_push_size _ rfl, rfl, rfl⟩, ?_⟩, fun b hb => ?_, val rv, fun s' t' mv => fin rv s' mv t'⟩
    · exact pt.at fun o e => Heap.get?_push_of_some _ e
    · simp at hb
      rcases hb with rfl | rfl
      · exact Heap.lt_size (Heap.get?_push_size _ rfl)
      · exact Nat.lt_trans pl.lt (Heap.lt_size (Heap.get?_push_size _ rfl))
noncomputable def dSum : List D → Hh → R D := fun ds h => match ds with
  | [d] => match seqOf d h with
    | some xs => match intsOf xs with
      | some ns => .ok (.int ns.sum) h
      | none => .bad
    | none => .bad
  | _ => .bad
theorem im_sum : ImpL K g ε dSum (fun vs H Q => ∃ (p : Addr) (ns : List Int), vs = [.ref p] ∧ (SqL K H p (ns.map V.int) ∨ SqT K H p (ns.map V.int)) ∧ Q (.int ns.sum) H) := by
  intro α H h a x Q r ra w
  obtain ⟨d, v, rfl, rfl, rd⟩ := one_of (f := dSum) (fun _ _ _ _ => rfl) (fun _ => rfl) ra w
  unfold dSum at w
  simp only at w
  cases e : seqOf d h with
  | none => rw [e] at w; exact w.elim
  | some ds =>
    rw [e] at w
    simp only at w
    cases e2 : intsOf ds with
    | none => rw [e2] at w; exact w.elim
    | some ns =>
      rw [e2] at w
      obtain ⟨p, vs, rfl, hq, rs⟩ := seq_rel r rd e
      have e3 := intsOf_some e2
      subst e3
      have e4 := rs.intsV
      subst e4
      exact ⟨p, ns, rfl, hq, Post.now w r (.int _)⟩
noncomputable def dAddI : D → D → Hh → R D
  | .int i, .int j, h => .ok (.int (i + j)) h
  | _, _, _ => .bad
theorem ii_add : Imp2 K g ε dAddI (ipI fun i j => i + j) := by
  intro α H h a b x y Q r ra rb w
  unfold dAddI at w
  cases ra with
  | int i =>
    cases rb with
    | int j => exact ⟨i, j, rfl, rfl, Post.now w r (.int _)⟩
    | _ => exact w.elim
  | _ => exact w.elim
end
end L2.FE
namespace L2.FE
open PySem PySem.Spec PyProof.Rows
section
variable {P : Program} {w : World} {K : PySem.W.Frag} {mg : Str → Option Value} {base : Heap} {g : GG}
noncomputable def DefAt (K : PySem.W.Frag) (mg : Str → Option Value) (x : Str) (st : Stmt) : Prop := ∃ f fd, mg x = some (.ref f) ∧ Fun K x x st f fd
noncomputable def DefIs (K : PySem.W.Frag) (x : Str) (st : Stmt) : Prop := ∃ f fd, PySem.W.nsIn K mainGlobals x = some (some (.ref f)) ∧ Fun K x x st f fd
theorem def_mk {x : Str} {st : Stmt} {f : Addr} {oc : Value} {od an : Option Addr} {osl : Array (Option Value)} {kV doc pm cdv ct : Value} (a : PySem.W.nsIn K mainGlobals x = some (some (.ref f)))
    (l : K.lookup f = some ⟨oc, od, .func (PySem.W.fnOf x x (defArgs st) (defBody st) (defScope st) .none kV doc pm an cdv ct), osl⟩) (c : PySem.W.codeIn K cdv x = true) (k : PySem.W.keepIn K (.ref f) = true) : DefIs K x st := ⟨f, _, a, fun_mk l c k⟩
theorem DefAt.of {h : Heap} {x : Str} {st : Stmt} (X : K.In h) (G : h.Ns mainGlobals mg) (d : DefIs K x st) : DefAt K mg x st :=
  let ⟨f, fd, a, F⟩ := d; ⟨f, fd, PySem.W.mg_of X G a, F⟩
noncomputable def Has (P : Program) (w : World) (K : PySem.W.Frag) (mg : Str → Option Value) (base : Heap) (g : GG) (x : Str) (k : Nat) (ps : List Str) (m : MF) : Prop :=
  ∃ f fd, FnOk P w K mg base CX0 k f fd ps (spM K g ps.length m) ∧ PySem.W.keepIn K (.ref f) = true ∧ Binds K fd ps [] ∧ mg x = some (.ref f) ∧ ∃ (oc : Value) (od : Option Addr) (osl : Array (Option Value)), K.lookup f = some ⟨oc, od, .func fd, osl⟩
noncomputable def gOf (mg : Str → Option Value) : GG := fun x => match mg x with
  | some (.ref f) => some f
  | _ => none
theorem look_of {x : Str} {st : Stmt} {f : Addr} {fd : FuncData} (F : Fun K x x st f fd) : ∃ (oc : Value) (od : Option Addr) (osl : Array (Option Value)), K.lookup f = some ⟨oc, od, .func fd, osl⟩ := by
  obtain ⟨oc, od, kV, doc, pm, an, cdv, ct, osl, rfl, lk, hcd⟩ := F.ex
  exact ⟨oc, od, osl, lk⟩
theorem has_fn {x : Str} {st : Stmt} {f : Addr} {fd : FuncData} {k : Nat} {ps : List Str} {m : MF} (F : Fun K x x st f fd) (hm : mg x = some (.ref f)) (h : Has P w K mg base g x k ps m) : FnOk P w K mg base CX0 k f fd ps (spM K g ps.length m) := by
  obtain ⟨f2, fd2, G, _, _, hm2, oc, od, osl, l2⟩ := h
  obtain ⟨oc', od', osl', l1⟩ := look_of F
  rw [hm] at hm2
  cases hm2
  rw [l1] at l2
  cases l2
  exact G
end
section
variable {X : Cx} {g : GG} {ε : EE}
theorem s_compSet {nl : NL} [IsNL nl] {elt iter : Expr} {x y : Str} {px py : Pos} {ifs : List Expr} {scope osc : Scope} {pos spos : Pos} {mi : MI} {tt : MT} {te : ME} {i : Nat} (ix : List Nat) (N' : List Str)
    (hxe : X.xe = fun _ _ => False) (hc : X.calm = true) (ho : X.env.scope = osc) (hN : N' = x :: ix.map fun i => (X.N[i]?).getD x) (hnd : N'.Nodup)
    (hall : (∀ y ∈ scope.names, y.2 = .free → osc.names.lookup y.1 = some .cell) ∧ (∀ y ∈ scope.names, y.2 ≠ .cell) ∧ scope.kind = .function ∧ (∀ y ∈ scope.names, y.2 = .local → scope.names.lookup y.1 = some .local) ∧ scope.names.lookup x = some .local ∧ (∀ y ∈ N'.tail, scope.names.lookup y = some .free))
    (hi : PI X (.Name x px) iter (tMI X.K g E00 mi))
    (ht : ∀ cl C s₀ H₀ fp, PTs (cxComp X scope cl C s₀ H₀ fp N') ifs (tMT X.K g E00 tt))
    (he : ∀ cl C s₀ H₀ fp, PE (cxComp X scope cl C s₀ H₀ fp N') elt (tM X.K g E00 te))
    (hNN : X.N.Nodup) (hy : X.N[i]? = some y) (hl : X.env.scope.names.lookup y = some .local := by rfl)
    (hsw : swapsWith (.ListComp elt [⟨.Name x px, iter, ifs, 0⟩] scope pos) (some (.Name y py)) spos.line X.env = pure true := by rfl)
    (hs : ∀ x, foldedSetIterable iter X.env x = pure x := by intro _; rfl) :
    PS X (.Assign [.Name y py] (.ListComp elt [⟨.Name x px, iter, ifs, 0⟩] scope pos) spos) (tMS X.K g E00 (cSet i (cComp nl mi ix tt te))) :=
  PS.imp (PS.frz (ps_compSet ix N' hxe hc ho hN hnd hall hi ht he hNN hy hl hsw hs)) fun E σ H ⟨α, env, h, s, w⟩ => tComp_of (nl := nl) (Q := fun v H1 => E.nx (σ.set i (some v)) H1) (fun v H1 z => set_frz z) (tM.use s w.bind fun d1 h1 v1 H1 α1 e1 s1 r1 w1 => (show PostS X.K g α H E (.nx (env.set i (some d1))) h1 from w1) H1 α1 e1 s1.heap _ (s1.vs.set r1))
noncomputable def cUn2 (i j : Nat) (m : ME) : MS := fun env h => (m env h).bind fun d h1 => (gT2 i j d env h1).bind fun e h2 => .ok (.nx e) h2
theorem s_un2 {i j : Nat} {x y : Str} {e : Expr} {me : ME} {px py pt pos : Pos} {kt} (hc : X.calm = true) (hN : X.N.Nodup) (hi : X.N[i]? = some x) (hj : X.N[j]? = some y) (he : PE X e (tM X.K g ε me))
    (hx : Loc X.env.scope x := by first | exact Or.inl rfl | exact Or.inr rfl) (hy : Loc X.env.scope y := by first | exact Or.inl rfl | exact Or.inr rfl)
    (fx : X.fn x = true ∨ X.env.scope.names.lookup x = some .local := by first | exact .inl rfl | exact .inr rfl) (fy : X.fn y = true ∨ X.env.scope.names.lookup y = some .local := by first | exact .inl rfl | exact .inr rfl)
    (hs : swapsWithSole [.Tuple [.Name x px, .Name y py] kt pt] e pos.line X.env = pure false := by rfl) (hw : swappedStores [.Tuple [.Name x px, .Name y py] kt pt] e X.env = pure none := by rfl) :
    PS X (.Assign [.Tuple [.Name x px, .Name y py] kt pt] e pos) (tMS X.K g ε (cUn2 i j me)) :=
  PS.imp (ps_asg he (pg_tup hc (pgs_cons (pg_name hN hi hx fx) (pgs_cons (pg_name hN hj hy fy) pgs_nil))) hs hw rfl) fun E σ H ⟨α, env, h, s, w⟩ => tM.use s w.bind fun d1 h1 v1 H1 α1 e1 s1 r1 w1 => by
    refine ig_two (ε := ε) α1 H1 h1 env σ d1 v1 _ s1 r1 ((w1.ext e1).bind.mono fun e' h2 _ w2 σ2 H2 α2 e2 s2 => ?_)
    exact (show PostS X.K g α H E (.nx e') h2 from w2) H2 α2 (e1.trans e2) s2.heap σ2 s2.vs
theorem s_parA {i j : Nat} {x y : Str} {a b : Expr} {ma : MA} {px py pt pos : Pos} {kt k2 pt2} (hc : X.calm = true) (hN : X.N.Nodup) (hi : X.N[i]? = some x) (hj : X.N[j]? = some y) (hij : i ≠ j) (ha : PA X [a, b] (tMA X.K g ε ma))
    (hx : X.env.scope.names.lookup x = some .local := by rfl) (hy : X.env.scope.names.lookup y = some .local := by rfl)
    (hw : swappedStores [.Tuple [.Name x px, .Name y py] kt pt] (.Tuple [a, b] k2 pt2) X.env = pure (some [x, y]) := by rfl)
    (hs : swapsWithSole [.Tuple [.Name x px, .Name y py] kt pt] (.Tuple [a, b] k2 pt2) pos.line X.env = pure false := by rfl) :
    PS X (.Assign [.Tuple [.Name x px, .Name y py] kt pt] (.Tuple [a, b] k2 pt2) pos) (tMS X.K g ε (cPar i j ma)) := s_par hc hN hi hj hij hx hy ha hw hs
end
theorem walk_m {k : Nat} {m : MF} {l : PySem.W.OpenLaw} {q : Program} {loose : List Str} {XP : (Str → Option Value) → Heap → Prop} {YP : World → Heap → Prop} {d : DefRec} {K : Params → PySem.W.Frag} (hn : l.most = some 63) (hdf : d.params.defaults = []) (hr : Room k callerA)
    (hY : ∀ (w : World) (h : Heap), YP w h → (K w.params).In h)
    (ok : ∀ ns : List Int, ns.length ≤ 63 → ∃ h, m [.scr (ns.map D.int)] [] = .ok (.bl true) h)
    (F : ∀ (w : World) (mg : Str → Option Value) (fa : Addr) (h : Heap), (K w.params).In h → h.Ns mainGlobals mg → mg d.name = some (.ref fa) →
      ∃ fd : FuncData, (∀ (s : Shared) (u : Value), BindsTo s fd ⟨[u], []⟩ [("_law_script", u)]) ∧ ∀ base : Heap, (K w.params).In base → base.Ns mainGlobals mg → FnOk l.prog w (K w.params) mg base CX0 k fa fd ["_law_script"] (spM (K w.params) (gOf mg) 1 m)) :
    PySem.W.WalkO q loose XP YP l.row.toRowW d [] (fun f vs => PySem.call f vs) := by
  refine L2.walk_of (n := 63) (k := k) (x := "_law_script") (CX := fun _ => CX0) (sp := fun w => fun vs H Q _ => ∃ a ns, vs = [V.ref a] ∧ ns.length ≤ 63 ∧ Only H ∧ SqL (K w.params) H a (ns.map V.int) ∧ ∀ v H', v = V.bl true → Q v H') hn (by decide) hdf hr hY (fun w mg fa h KX G hmg => ?_) (fun w H a ns hl hO hS => ⟨a, ns, rfl, hl, hO, hS, fun _ _ z => z⟩) fun _ _ _ _ _ z => z
  obtain ⟨fd, hb, hF⟩ := F w mg fa h KX G hmg
  refine ⟨fd, hb, fun base kb nb => (hF base kb nb).imp fun vs H Q E z => ?_⟩
  obtain ⟨a, ns, rfl, hl, hO, hS, hQ⟩ := z
  obtain ⟨hh, e⟩ := ok ns hl
  refine ⟨rfl, [], [.scr (ns.map D.int)], [], .cons (.scr ?_ (RelDs.ints ns)) .nil, ⟨rfl, fun n m p z => by simp at z, fun n p o z => by simp at z⟩, ?_⟩
  · rcases hS with (hS | ⟨o, hS⟩) | hS
    · rcases hO a with z | ⟨o, xs, z⟩
      · rw [hS] at z; cases z
      · rw [hS] at z; cases z
    · exact .inl ⟨o, hS⟩
    · exact .inr hS
  · rw [e]
    intro v H' α' _ _ rd
    cases rd
    exact hQ _ _ rfl
end L2.FE
namespace L2.FE
open PySem PySem.Spec PyProof.Rows
section
variable {X : Cx} {K : PySem.W.Frag} {g : GG} {ε : EE}
noncomputable def intsS (lo st : Int) (n : Nat) : List D := (rngL lo st n).map D.int
noncomputable def rng3 : List D → Option (List D)
  | [.int a, .int b, .int c] => if Builtin.Range.small a b c = true ∧ 0 ≤ Builtin.Range.rangeSize a b c ∧ (Builtin.Range.rangeSize a b c).natAbs ≤ 1000000 ∧ c ≠ 0 ∧ c.natAbs < 1073741824 then some (intsS a c (Builtin.Range.rangeSize a b c).toNat) else none
  | _ => none
theorem rng3_rel {α : List Addr} {H : Hp} {ds : List D} {vs : List V} {xs : List D} (r : RelDs K g α H ds vs) (e : rng3 ds = some xs) :
    ∃ a b c n, vs = [.int a, .int b, .int c] ∧ c ≠ 0 ∧ c.natAbs < 1073741824 ∧ RngOk a b c n ∧ xs = intsS a c n := by
  unfold rng3 at e
  split at e
  · rename_i a b c
    split at e
    · rename_i hc
      cases e
      cases r with
      | cons r1 t =>
        cases t with
        | cons r2 t =>
          cases t with
          | cons r3 t =>
            cases t; cases r1; cases r2; cases r3
            exact ⟨a, b, c, _, rfl, hc.2.2.2.1, hc.2.2.2.2, ⟨hc.1, by omega, by omega⟩, rfl⟩
    · cases e
  · cases e
section
variable {e : Expr} {es : List Expr} {mr : MA} {p1 p2 q1 q2 : Pos}
end
noncomputable def dIxL : D → D → Hh → R D := fun a b h => match a with
  | .ref n => dIx (.ref n) b h
  | _ => .bad
noncomputable def cAugIx (o i v : ME) : MS := fun env h => (o env h).bind fun x h1 => (i env h1).bind fun y h2 => (dIxL x y h2).bind fun z h3 => (v env h3).bind fun u h4 => (dAddI z u h4).bind fun t h5 => (dSetIx x y t h5).bind fun _ h6 => .ok (.nx env) h6
theorem get_seq : PGet X (fun x y H Q => rIxL X.K x y H Q) := by
  intro pins s σ H o i ov iv Q I ro ri h
  obtain ⟨p, xs, k, z, rfl, rfl, hq, he, q⟩ := h
  cases ro
  obtain ⟨t, rfl⟩ := ri
  obtain ⟨its, r, pl, hz⟩ := I.list hq
  obtain ⟨j, h1, h2, h3, h4, h5⟩ := atI_get he
  obtain ⟨w, ew, rw'⟩ := r.get h2
  have hl := r.length
  have hn := line63
  have fin : EP X pins σ Q w s := ⟨z, H, I, rw', q⟩
  by_cases h0 : 0 ≤ k
  · have hj : k.toNat = j := by
      rw [seqIndex_of h0 h5] at h1
      exact Option.some.inj h1
    exact wpAny_getItem_list pl.isList h0 (by omega) (by rw [hj]; simpa using ew) fin
  · have hj : (k + (its.toArray.size : Int)).toNat = j := by
      rw [seqIndex_neg (by omega) h4] at h1
      rw [List.size_toArray, ← hl]
      exact Option.some.inj h1
    exact wpAny_getItem_list_neg pl.isList (by omega) (by rw [List.size_toArray] <;> omega) (by omega) (by rw [hj]; simpa using ew) fin
theorem s_augIx {o i e : Expr} {mo mi me : ME} {tpos pos : Pos} (ho : PE X o (tM X.K g ε mo)) (hi : PE X i (tM X.K g ε mi)) (he : PE X e (tM X.K g ε me))
    (ha : ∀ ov iv new, augStore i ov iv new = (do holding [new, ov, iv] (setItem ov iv new); release [new, ov, iv] []; pure .next) := by intros; rfl) : PS X (.AugAssign (.Subscript o i tpos) .Add e pos) (tMS X.K g ε (cAugIx mo mi me)) :=
  PS.imp (ps_augS ho hi get_seq he ip_add set_list ha) fun E σ H ⟨α, env, h, s, w⟩ => tM.use s w.bind fun d1 h1 v1 H1 α1 e1 s1 r1 w1 => tM.use s1 (w1.ext e1).bind fun d2 h2 v2 H2 α2 e2 s2 r2 w2 => by
    have w3 := (w2.ext e2).bind
    have r1' := r1.ext e2
    unfold dIxL at w3
    cases r1' with
    | @ref n p hp =>
      simp only [dIx] at w3
      cases eq : seqOf (.ref n) h2 with
      | none => simp only [eq] at w3; exact w3.elim
      | some ds =>
        simp only [eq] at w3
        cases r2 with
        | int k =>
          cases ea : atI ds k with
          | none => simp only [ea] at w3; exact w3.elim
          | some z =>
            simp only [ea] at w3
            have w4 : WQ X.K g ε α2 H2 ((me env h2).bind _) _ := w3
            have eq' : lstOf h2 n = some ds := eq
            obtain ⟨vs', hv', rs'⟩ := s2.heap.lst eq' hp
            obtain ⟨v', ev', rv'⟩ := atI_rel rs' ea
            refine ⟨p, vs', k, v', rfl, rfl, SqL.of hv', ev', tM.use s2 w4.bind fun d3 h3 v3 H3 α3 e3 s3 r3 w5 => ?_⟩
            refine ii_add (K := X.K) (g := g) (ε := ε) α3 H3 h3 z d3 v' v3 _ s3.heap (rv'.ext e3) r3 ((w5.ext e3).bind.mono fun t h4 _ w6 v4 H4 α4 e4 hr4 r4 => ?_)
            refine im_setIx (K := X.K) (g := g) (ε := ε) α4 H4 h4 (.ref n) (.int k) t (.ref p) (.int k) v4 _ hr4 (.ref ((e3.trans e4).get hp)) (.int k) r4 (((w6.ext e4)).bind.mono fun _ h5 _ w7 H5 α5 e5 hr5 => ?_)
            exact (show PostS X.K g α H E (.nx env) h5 from w7) H5 α5 (e1.trans (e2.trans (e3.trans (e4.trans e5)))) hr5 _ (s3.vs.ext (e4.trans e5))
        | _ => exact w3.elim
    | _ => exact w3.elim
end
end L2.FE
namespace L2.FE
open PySem PySem.Spec PyProof.Rows
mutual
noncomputable def lowD (k : Nat) : D → Bool
  | .ref n => decide (n < k)
  | .tup ds => lowDs k ds
  | .frl ds => lowDs k ds
  | .scr ds => lowDs k ds
  | _ => true
noncomputable def lowDs (k : Nat) : List D → Bool
  | [] => true
  | d :: ds => lowD k d && lowDs k ds
end
noncomputable def lowO (k : Nat) : O → Bool
  | .lst ds => lowDs k ds
  | .set _ => true
  | .dic kvs => lowDs k (kvs.map (·.2))
  | .dit kvs => lowDs k (kvs.map (·.2))
noncomputable def mapO (f : D → Option D) : List D → Option (List D)
  | [] => some []
  | d :: ds => match f d, mapO f ds with
    | some e, some es => some (e :: es)
    | _, _ => none
noncomputable def frzD (k : Nat) (h : Hh) : Nat → D → Option D
  | 0, _ => none
  | f + 1, d => match d with
    | .ref n => if n < k then some (.ref n) else match lstOf h n with
      | some ds => (mapO (frzD k h f) ds).map .frl
      | none => none
    | .tup ds => (mapO (frzD k h f) ds).map .tup
    | .frl ds => (mapO (frzD k h f) ds).map .frl
    | .scr _ => none
    | d => some d
noncomputable def exitF (h : Hh) : D → Hh → R D := fun d h' => if (h'.take h.length).all (lowO h.length) = true then match frzD h.length h' 8 d with
  | some e => .ok e (h'.take h.length)
  | none => .bad else .bad
noncomputable def exitR (h : Hh) : D → Hh → R D := fun d h' => if (h'.take h.length).all (lowO h.length) = true then match d with
  | .ref n => if h.length ≤ n then match lstOf h' n with
    | some ds => match mapO (frzD h.length (h'.set n (.set [])) 8) ds with
      | some es => .ok (.ref h.length) (h'.take h.length ++ [.lst es])
      | none => .bad
    | none => .bad else .bad
  | _ => .bad else .bad
open Classical in
noncomputable def frzS (S : Addr → Prop) (o : Addr → Obj) (H : Hp) : Hp := fun p => if S p then (H p).map (.frz (o p)) else H p
theorem obj_of {P : Program} {w : World} {H : Hp} {h : Heap} {p : Addr} {u : HO} (q : ObjOk P w H h p u) (mu : Mut (some u)) : ∃ o, h.get? p = some o := by
  cases u with
  | lst xs => obtain ⟨_, _, _, _, e'⟩ := q; exact ⟨_, e'⟩
  | dK kvs => obtain ⟨_, _, _, _, o, _, _, e', _⟩ := q; exact ⟨_, e'⟩
  | dT kvs => obtain ⟨_, _, _, _, o, _, _, e', _⟩ := q; exact ⟨_, e'⟩
  | set S n => obtain ⟨o, _, _, _, e', _⟩ := q; exact ⟨_, e'⟩
  | ins C dx fs => obtain ⟨_, _, _, e', _⟩ := q; exact ⟨_, e'⟩
  | ext φ => obtain ⟨_, ⟨_, e'⟩, _⟩ := q; exact ⟨_, e'⟩
  | _ => exact absurd mu (fun z => z)
theorem ce_frz {outer : List Env} {P : Program} {w : World} {H : Hp} {s : Shared} {Q Q' : VK} {u : Value} {s' : Shared} (h : CE outer P w H s Q' u s')
    (hQ : ∀ v H', Q' v H' → ∃ S : Addr → Prop, (∀ p, S p → ∃ u, H' p = some u ∧ Mut (some u)) ∧ ∀ o : Addr → Obj, Q v (frzS S o H')) : CE outer P w H s Q u s' := by
  obtain ⟨v, H', os, bare, un, hok, r, q⟩ := h
  obtain ⟨S, hS, q⟩ := hQ v H' q
  have hS1 : ∀ p, S p → ∀ u, H' p = some u → Mut (some u) := fun p z u e => by obtain ⟨u', e', m⟩ := hS p z; rw [e] at e'; cases e'; exact m
  have off : ∀ (o : Addr → Obj) b u, H' b = some u → ¬ Mut (some u) → frzS S o H' b = some u := fun o b u e m => by
    unfold frzS
    rw [if_neg fun z => m (hS1 b z u e)]; exact e
  have offn : ∀ (o : Addr → Obj) b, H' b = none → frzS S o H' b = none := fun o b e => by
    unfold frzS
    split
    · rw [e]; rfl
    · exact e
  let o : Addr → Obj := fun b => (s'.heap.get? b).getD { cls := .none, data := .fields #[] }
  refine ⟨v, frzS S o H', os, bare, ⟨un.keep, un.slot, fun b ob e n hx => offn o b (un.free b ob e n hx), un.there, fun b xs e => off o b _ (un.tups b xs e) fun z => z, fun b ob xs e => off o b _ (un.frzs b ob xs e) fun z => z, fun b ps e => ?_⟩, ?_, r, q o⟩
  · obtain ⟨more, e1⟩ := un.tbls b ps e
    exact ⟨more, off o b _ e1 fun z => z⟩
  · intro b u e
    have st : ∀ u, ObjOk P w H' s'.heap b u → ObjOk P w (frzS S o H') s'.heap b u := fun u x => x.stay (fun _ _ _ z => z) (fun c z => off o c _ z fun z => z) fun c xs z => off o c _ z fun z => z
    unfold frzS at e
    split at e
    · rename_i hb
      obtain ⟨u', e', m⟩ := hS b hb
      rw [e'] at e
      cases e
      have x := hok b u' e'
      obtain ⟨ob, eo⟩ := obj_of x m
      refine ⟨?_, st _ x⟩
      show s'.heap.get? b = some ((s'.heap.get? b).getD _)
      rw [eo]; rfl
    · exact st u (hok b u e)
section
variable {K : PySem.W.Frag} {g : GG} {α α' : List Addr} {H H' H2 : Hp} {k : Nat}
structure Lower (K : PySem.W.Frag) (α α' : List Addr) (H' H2 : Hp) (k : Nat) : Prop where
  pre : ∀ n, n < k → α[n]? = α'[n]?
  tup : ∀ p xs, H' p = some (.tup xs) → H2 p = some (.tup xs)
  frz : ∀ p (o : Obj) (u : HO), H' p = some (.frz o u) → H2 p = some (.frz o u)
mutual
theorem low_rel (L : Lower K α α' H' H2 k) : ∀ {d : D} {v : V}, lowD k d = true → RelD K g α' H' d v → RelD K g α H2 d v
  | _, _, _, .non => .non
  | _, _, _, .bl b => .bl b
  | _, _, _, .int i => .int i
  | _, _, _, .str x => .str x
  | _, _, hl, .ref h => .ref (by rw [L.pre _ (by simpa [lowD] using hl)]; exact h)
  | _, _, hl, .tup h r => .tup (L.tup _ _ h) (lows_rel L (by simpa [lowD] using hl) r)
  | _, _, hl, .frl h r => .frl (let ⟨o, h⟩ := h; ⟨o, L.frz _ _ _ h⟩) (lows_rel L (by simpa [lowD] using hl) r)
  | _, _, hl, .scr h r => .scr (h.elim (fun ⟨o, h⟩ => .inl ⟨o, L.frz _ _ _ h⟩) .inr) (lows_rel L (by simpa [lowD] using hl) r)
  | _, _, _, .fn h => .fn h
  | _, _, _, .edic h => .edic (L.frz _ _ _ h)
  | _, _, _, .exc hg h hc hd hf => .exc hg (L.frz _ _ _ h) hc hd (hf.elim .inl fun ⟨dx, od, a, b⟩ => .inr ⟨dx, od, a, L.frz _ _ _ b⟩)
theorem lows_rel (L : Lower K α α' H' H2 k) : ∀ {ds : List D} {vs : List V}, lowDs k ds = true → RelDs K g α' H' ds vs → RelDs K g α H2 ds vs
  | _, _, _, .nil => .nil
  | _, _, hl, .cons r t => by
    simp only [lowDs, Bool.and_eq_true] at hl
    exact .cons (low_rel L hl.1 r) (lows_rel L hl.2 t)
end
theorem mapO_rel {f : D → Option D} (hf : ∀ d e v, f d = some e → RelD K g α' H' d v → RelD K g α H2 e v) : ∀ {ds es : List D} {vs : List V}, mapO f ds = some es → RelDs K g α' H' ds vs → RelDs K g α H2 es vs
  | [], es, _, e, .nil => by cases e; exact .nil
  | d :: ds, es, _, e, .cons r t => by
    unfold mapO at e
    split at e
    · rename_i e1 es1 h1 h2
      cases e
      exact .cons (hf _ _ _ h1 r) (mapO_rel hf h2 t)
    · cases e
theorem frz_rel {h' hx : Hh} (L : Lower K α α' H' H2 k) (r : HRel K g α' H' h') (hx' : ∀ n ds, lstOf hx n = some ds → lstOf h' n = some ds) (fz : ∀ n p ds vs, k ≤ n → lstOf hx n = some ds → α'[n]? = some p → H' p = some (.lst vs) → Fr1 H2 p vs) :
    ∀ (f : Nat) (d e : D) (v : V), frzD k hx f d = some e → RelD K g α' H' d v → RelD K g α H2 e v
  | 0, _, _, _, e, _ => by cases e
  | f + 1, d, e, v, he, rd => by
    unfold frzD at he
    cases rd with
    | non => cases he; exact .non
    | bl b => cases he; exact .bl b
    | int i => cases he; exact .int i
    | str x => cases he; exact .str x
    | fn h => cases he; exact .fn h
    | edic h => cases he; exact .edic (L.frz _ _ _ h)
    | exc hg h hc hd hf => cases he; exact .exc hg (L.frz _ _ _ h) hc hd (hf.elim .inl fun ⟨dx, od, a, b⟩ => .inr ⟨dx, od, a, L.frz _ _ _ b⟩)
    | scr _ _ => cases he
    | tup h rs =>
      simp only at he
      cases e1 : mapO (frzD k hx f) _ with
      | none => rw [e1] at he; cases he
      | some es => rw [e1] at he; cases he; exact .tup (L.tup _ _ h) (mapO_rel (fun d e v => frz_rel L r hx' fz f d e v) e1 rs)
    | frl h rs =>
      simp only at he
      cases e1 : mapO (frzD k hx f) _ with
      | none => rw [e1] at he; cases he
      | some es => rw [e1] at he; cases he; exact .frl (let ⟨o, h⟩ := h; ⟨o, L.frz _ _ _ h⟩) (mapO_rel (fun d e v => frz_rel L r hx' fz f d e v) e1 rs)
    | @ref n p hp =>
      simp only at he
      split at he
      · rename_i hn
        cases he
        exact .ref (by rw [L.pre n hn]; exact hp)
      · rename_i hn
        cases el : lstOf hx n with
        | none => rw [el] at he; cases he
        | some ds =>
          rw [el] at he
          simp only at he
          cases e1 : mapO (frzD k hx f) ds with
          | none => rw [e1] at he; cases he
          | some es =>
            rw [e1] at he; cases he
            obtain ⟨vs, hv, rs⟩ := r.lst (hx' n ds el) hp
            exact .frl (fz n p ds vs (by omega) el hp hv) (mapO_rel (fun d e v => frz_rel L r hx' fz f d e v) e1 rs)
end
theorem take_get {β : Type} {l : List β} {k n : Nat} {x : β} (e : (l.take k)[n]? = some x) : n < k ∧ l[n]? = some x := by
  rw [List.getElem?_take] at e
  split at e
  · exact ⟨by assumption, e⟩
  · cases e
theorem pre_get {α α' : List Addr} (h : α <+: α') {n : Nat} (hn : n < α.length) : α[n]? = α'[n]? := by
  obtain ⟨t, rfl⟩ := h
  rw [List.getElem?_append_left hn]
theorem all_get {β : Type} {l : List β} {f : β → Bool} (h : l.all f = true) {n : Nat} {x : β} (e : l[n]? = some x) : f x = true := List.all_eq_true.mp h x (List.mem_of_getElem? e)
theorem low_heap {K : PySem.W.Frag} {g : GG} {α α' α2 : List Addr} {H H' H2 : Hp} {h h' : Hh} (r0 : α.length = h.length) (e : Ext K α H α' H') (r : HRel K g α' H' h') (hl : (h'.take h.length).all (lowO h.length) = true)
    (L : Lower K α2 α' H' H2 h.length) (kp : ∀ n p u, n < h.length → α'[n]? = some p → H' p = some u → H2 p = some u) : ∀ (n : Nat) (p : Addr) (o : O), n < h.length → α'[n]? = some p → (h'.take h.length)[n]? = some o → OAt K g α2 H2 p o := by
  intro n p o hn hp ho
  have lo := all_get hl ho
  obtain ⟨_, ho'⟩ := take_get ho
  have q := r.here n p o hp ho'
  cases o with
  | lst ds => obtain ⟨vs, a, b⟩ := q; exact ⟨vs, kp n p _ hn hp a, lows_rel L lo b⟩
  | set m => exact kp n p _ hn hp q
  | dic kvs =>
    obtain ⟨kws, a, b⟩ := q
    refine ⟨kws, kp n p _ hn hp a, ?_⟩
    replace lo : lowDs h.length (kvs.map (·.2)) = true := lo
    clear a ho ho'
    induction b with
    | nil => exact .nil
    | cons x t ih =>
      simp only [List.map_cons, lowDs, Bool.and_eq_true] at lo
      exact .cons ⟨x.1, low_rel L lo.1 x.2⟩ (ih lo.2)
  | dit kvs =>
    obtain ⟨kws, a, b⟩ := q
    refine ⟨kws, kp n p _ hn hp a, ?_⟩
    replace lo : lowDs h.length (kvs.map (·.2)) = true := lo
    clear a ho ho'
    induction b with
    | nil => exact .nil
    | cons x t ih =>
      simp only [List.map_cons, lowDs, Bool.and_eq_true] at lo
      exact .cons ⟨x.1, low_rel L lo.1 x.2⟩ (ih lo.2)
section
variable {P : Program} {w : World} {K : PySem.W.Frag} {mg : Str → Option Value} {base : Heap} {g : GG} {k np : Nat} {f : Addr} {fd : FuncData} {ps : List Str} {m : MF}
theorem fn_exit {CX : CXT} {ε : XK → EE} (F : FnOk P w K mg base CX k f fd ps (spG K g ε np m)) : FnOk P w K mg base CX k f fd ps (spG K g ε np fun ds h => (m ds h).bind (exitF h)) := by
  refine ⟨fun vs H Q E h => ?_, fun A outer s H args us vs Q E hr e0 hb hv hsp => ?_⟩
  · obtain ⟨hl, α, ds, h, rs, hh, w⟩ := h
    exact F.len vs H (fun _ _ => True) E ⟨hl, α, ds, h, rs, hh, w.bind.mono fun _ _ _ _ _ _ _ _ _ _ => trivial⟩
  · obtain ⟨hl, α, ds, h, rs, hh, w⟩ := hsp
    refine codeAny_mono (F.run A outer s H args us vs (fun v H' => ∃ α' d h', Ext K α H α' H' ∧ HRel K g α' H' h' ∧ RelD K g α' H' d v ∧ WQ K g (ε E) α H (exitF h d h') (Post K g α H Q)) E hr e0 hb hv ⟨hl, α, ds, h, rs, hh, w.bind.mono fun d h' _ w1 v H' α' e r rd => ⟨α', d, h', e, r, rd, w1⟩⟩) fun res s' q => ?_
    cases res with
    | error e => exact q
    | ok fl =>
      cases fl with
      | ret u =>
        refine ce_frz (show CE outer P _ H s _ u s' from q) fun v H' ⟨α', d, h', e, r, rd, w⟩ => ?_
        refine ⟨fun p => ∃ n ds, h.length ≤ n ∧ α'[n]? = some p ∧ lstOf h' n = some ds, fun p ⟨n, ds, _, hp, hn⟩ => ?_, fun o => ?_⟩
        · obtain ⟨vs, hv, _⟩ := r.lst hn hp
          exact ⟨_, hv, trivial⟩
        · unfold exitF at w
          obtain ⟨hl, w⟩ := WQ.iteP w
          cases ez : frzD h.length h' 8 d with
          | none => rw [ez] at w; exact w.elim
          | some e' =>
            rw [ez] at w
            generalize hS : (fun p => ∃ n ds, h.length ≤ n ∧ α'[n]? = some p ∧ lstOf h' n = some ds) = S
            have inS : ∀ p, S p ↔ ∃ n ds, h.length ≤ n ∧ α'[n]? = some p ∧ lstOf h' n = some ds := fun p => by rw [← hS]
            have k0 : α.length = h.length := hh.len
            have notS : ∀ p u, H' p = some u → (∀ vs, u ≠ .lst vs) → ¬ S p := fun p u e1 e2 z => by
              obtain ⟨n, ds, _, hp, hn⟩ := (inS p).mp z
              obtain ⟨vs, hv, _⟩ := r.lst hn hp
              rw [e1] at hv; cases hv; exact e2 vs rfl
            have off : ∀ p, ¬ S p → frzS S o H' p = H' p := fun p z => by unfold frzS; rw [if_neg z]
            have L : Lower K α α' H' (frzS S o H') h.length := ⟨fun n hn => pre_get e.pre (by omega), fun p xs z => by rw [off p (notS p _ z fun vs z => nomatch z)]; exact z, fun p o u z => by rw [off p (notS p _ z fun vs z => nomatch z)]; exact z⟩
            have kp : ∀ n p u, n < h.length → α'[n]? = some p → H' p = some u → frzS S o H' p = some u := fun n p u hn hp e1 => by
              rw [off p fun z => ?_]; exact e1
              obtain ⟨m, ds, hm, hp', _⟩ := (inS p).mp z
              have := r.inj n m p hp hp'
              omega
            have rd2 : RelD K g α (frzS S o H') e' v := frz_rel L r (fun _ _ z => z) (fun n p ds vs hn hl hp hv => ⟨o p, by unfold frzS; rw [if_pos ((inS p).mpr ⟨n, ds, hn, hp, hl⟩), hv]; rfl⟩) 8 d e' v ez rd
            refine (show Post K g α H Q e' (h'.take h.length) from w) v _ α ⟨⟨List.prefix_refl _, fun p xs z => L.tup p xs (e.tup p xs z), fun p o u z => L.frz p o u (e.frz p o u z)⟩, fun p u z n => ?_, fun _ z n => absurd z n⟩ ⟨?_, fun n m p h1 h2 => hh.inj n m p h1 h2, fun n p ob h1 h2 => ?_⟩ rd2
            · rw [off p fun z' => ?_]; exact e.keep p u z n
              obtain ⟨m, ds, _, hp', _⟩ := (inS p).mp z'
              have := e.new p (List.mem_of_getElem? hp') n
              rw [z] at this; cases this
            · rw [List.length_take, ← r.len, k0]
              have := e.pre.length_le
              omega
            · have hn : n < h.length := (take_get h2).1
              rw [pre_get e.pre (by omega)] at h1
              exact low_heap k0 e r hl L kp n p ob hn h1 h2
      | next => exact q
      | brk => exact q
      | cont => exact q
theorem fn_exitR {CX : CXT} {ε : XK → EE} (F : FnOk P w K mg base CX k f fd ps (spG K g ε np m)) : FnOk P w K mg base CX k f fd ps (spG K g ε np fun ds h => (m ds h).bind (exitR h)) := by
  refine ⟨fun vs H Q E h => ?_, fun A outer s H args us vs Q E hr e0 hb hv hsp => ?_⟩
  · obtain ⟨hl, α, ds, h, rs, hh, w⟩ := h
    exact F.len vs H (fun _ _ => True) E ⟨hl, α, ds, h, rs, hh, w.bind.mono fun _ _ _ _ _ _ _ _ _ _ => trivial⟩
  · obtain ⟨hl, α, ds, h, rs, hh, w⟩ := hsp
    refine codeAny_mono (F.run A outer s H args us vs (fun v H' => ∃ α' d h', Ext K α H α' H' ∧ HRel K g α' H' h' ∧ RelD K g α' H' d v ∧ WQ K g (ε E) α H (exitR h d h') (Post K g α H Q)) E hr e0 hb hv ⟨hl, α, ds, h, rs, hh, w.bind.mono fun d h' _ w1 v H' α' e r rd => ⟨α', d, h', e, r, rd, w1⟩⟩) fun res s' q => ?_
    cases res with
    | error e => exact q
    | ok fl =>
      cases fl with
      | ret u =>
        refine ce_frz (show CE outer P _ H s _ u s' from q) fun v H' ⟨α', d, h', e, r, rd, w⟩ => ?_
        unfold exitR at w
        obtain ⟨hl, w⟩ := WQ.iteP w
        cases rd with
        | @ref n0 p0 hp0 =>
          obtain ⟨hk, w⟩ := WQ.iteP w
          cases el : lstOf h' n0 with
          | none => rw [el] at w; exact w.elim
          | some ds =>
            rw [el] at w
            simp only at w
            cases ez : mapO (frzD h.length (h'.set n0 (.set [])) 8) ds with
            | none => rw [ez] at w; exact w.elim
            | some es =>
              rw [ez] at w
              have hx : ∀ n ds, lstOf (h'.set n0 (.set [])) n = some ds → n ≠ n0 ∧ lstOf h' n = some ds := fun n ds z => by
                by_cases hn : n = n0
                · subst hn
                  unfold lstOf at z
                  rw [List.getElem?_set] at z
                  rw [if_pos rfl] at z
                  split at z
                  · rename_i q; split at q <;> cases q
                  · cases z
                · unfold lstOf at z ⊢
                  rw [List.getElem?_set_ne (Ne.symm hn)] at z
                  exact ⟨hn, z⟩
              refine ⟨fun p => ∃ n ds, h.length ≤ n ∧ n ≠ n0 ∧ α'[n]? = some p ∧ lstOf h' n = some ds, fun p ⟨n, ds, _, _, hp, hn⟩ => ?_, fun o => ?_⟩
              · obtain ⟨vs, hv, _⟩ := r.lst hn hp
                exact ⟨_, hv, trivial⟩
              · generalize hS : (fun p => ∃ n ds, h.length ≤ n ∧ n ≠ n0 ∧ α'[n]? = some p ∧ lstOf h' n = some ds) = S
                have inS : ∀ p, S p ↔ ∃ n ds, h.length ≤ n ∧ n ≠ n0 ∧ α'[n]? = some p ∧ lstOf h' n = some ds := fun p => by rw [← hS]
                have k0 : α.length = h.length := hh.len
                have notS : ∀ p u, H' p = some u → (∀ vs, u ≠ .lst vs) → ¬ S p := fun p u e1 e2 z => by
                  obtain ⟨n, ds, _, _, hp, hn⟩ := (inS p).mp z
                  obtain ⟨vs, hv, _⟩ := r.lst hn hp
                  rw [e1] at hv; cases hv; exact e2 vs rfl
                have off : ∀ p, ¬ S p → frzS S o H' p = H' p := fun p z => by unfold frzS; rw [if_neg z]
                have L : Lower K (α ++ [p0]) α' H' (frzS S o H') h.length := ⟨fun n hn => by rw [List.getElem?_append_left (by omega)]; exact pre_get e.pre (by omega), fun p xs z => by rw [off p (notS p _ z fun vs z => nomatch z)]; exact z, fun p o u z => by rw [off p (notS p _ z fun vs z => nomatch z)]; exact z⟩
                have kp : ∀ n p u, n < h.length → α'[n]? = some p → H' p = some u → frzS S o H' p = some u := fun n p u hn hp e1 => by
                  rw [off p fun z => ?_]; exact e1
                  obtain ⟨m, ds, hm, _, hp', _⟩ := (inS p).mp z
                  have := r.inj n m p hp hp'
                  omega
                obtain ⟨vs0, hv0, rs0⟩ := r.lst el hp0
                have p0S : ¬ S p0 := fun z => by
                  obtain ⟨m, ds, hm, hne, hp', _⟩ := (inS p0).mp z
                  exact hne (r.inj m n0 p0 hp' hp0)
                have p0α : p0 ∉ α := fun z => by
                  obtain ⟨m, hm, em⟩ := List.getElem_of_mem z
                  have h1 : α'[m]? = some p0 := by rw [← pre_get e.pre hm, List.getElem?_eq_getElem hm, em]
                  have := r.inj m n0 p0 h1 hp0
                  omega
                have rs2 : RelDs K g (α ++ [p0]) (frzS S o H') es vs0 := mapO_rel (fun d e v => frz_rel L r (fun n ds z => (hx n ds z).2) (fun n p ds vs hn hl hp hv => ⟨o p, by unfold frzS; rw [if_pos ((inS p).mpr ⟨n, ds, hn, (hx n ds hl).1, hp, (hx n ds hl).2⟩), hv]; rfl⟩) 8 d e v) ez rs0
                have tl : (h'.take h.length).length = h.length := by
                  rw [List.length_take, ← r.len]
                  have := e.pre.length_le
                  omega
                refine (show Post K g α H Q (.ref h.length) (h'.take h.length ++ [.lst es]) from w) _ _ (α ++ [p0]) ⟨⟨List.prefix_append _ _, fun p xs z => L.tup p xs (e.tup p xs z), fun p o u z => L.frz p o u (e.frz p o u z)⟩, fun p u z n => ?_, fun p z n => ?_⟩ ⟨?_, fun n m p h1 h2 => ?_, fun n p ob h1 h2 => ?_⟩ (.ref ?_)
                · rw [off p fun z' => ?_]; exact e.keep p u z n
                  obtain ⟨m, ds, _, _, hp', _⟩ := (inS p).mp z'
                  have := e.new p (List.mem_of_getElem? hp') n
                  rw [z] at this; cases this
                · rcases List.mem_append.mp z with z | z
                  · exact absurd z n
                  · rw [List.mem_singleton.mp z]
                    exact e.new p0 (List.mem_of_getElem? hp0) p0α
                · rw [List.length_append, List.length_append, tl, k0]; rfl
                · have key : ∀ i, (α ++ [p0])[i]? = some p → (i < α.length ∧ α[i]? = some p) ∨ (i = α.length ∧ p = p0) := fun i hi => by
                    by_cases hl : i < α.length
                    · rw [List.getElem?_append_left hl] at hi; exact .inl ⟨hl, hi⟩
                    · rw [List.getElem?_append_right (by omega)] at hi
                      by_cases h0 : i - α.length = 0
                      · rw [h0] at hi; simp at hi; exact .inr ⟨by omega, hi.symm⟩
                      · rw [List.getElem?_eq_none (by simp; omega)] at hi; cases hi
                  rcases key n h1 with ⟨a1, a2⟩ | ⟨a1, a2⟩ <;> rcases key m h2 with ⟨b1, b2⟩ | ⟨b1, b2⟩
                  · exact hh.inj n m p a2 b2
                  · rw [b2] at a2; exact absurd (List.mem_of_getElem? a2) p0α
                  · rw [a2] at b2; exact absurd (List.mem_of_getElem? b2) p0α
                  · omega
                · by_cases hn : n < h.length
                  · rw [List.getElem?_append_left (by omega), pre_get e.pre (by omega)] at h1
                    rw [List.getElem?_append_left (by omega)] at h2
                    exact low_heap k0 e r hl L kp n p ob hn h1 h2
                  · rw [List.getElem?_append_right (by omega)] at h2
                    rw [List.getElem?_append_right (by omega)] at h1
                    by_cases h0 : n - h.length = 0
                    · rw [tl, h0] at h2
                      rw [k0, h0] at h1
                      simp at h1 h2
                      subst h1 h2
                      exact ⟨vs0, by rw [off _ p0S]; exact hv0, rs2⟩
                    · rw [k0, List.getElem?_eq_none (by simp; omega)] at h1; cases h1
                · rw [← k0, List.getElem?_append_right (Nat.le_refl _)]; simp
        | _ => exact w.elim
      | next => exact q
      | brk => exact q
      | cont => exact q
end
end L2.FE
namespace L2.FE
open PySem PySem.Spec PyProof.Rows
section
variable {X : Cx} {g : GG} {ε : EE}
noncomputable def gT3 (i j k : Nat) : D → En → Hh → R En := fun d env h => match d with
  | .tup [x, y, z] => .ok (((env.set i (some x)).set j (some y)).set k (some z)) h
  | _ => .bad
theorem ig_three {K : PySem.W.Frag} {g : GG} {ε : EE} {i j k : Nat} : ImpG K g ε (gT3 i j k) (gTup K 3 (gCons (gName i) (gCons (gName j) (gCons (gName k) gNil)))) := fun α H h env σ d x Q s r w => by
  unfold gT3 at w
  cases r with
  | tup hq rs =>
    cases rs with
    | nil => exact w.elim
    | cons ra rr =>
      cases rr with
      | nil => exact w.elim
      | cons rb rr =>
        cases rr with
        | nil => exact w.elim
        | cons rc rr =>
          cases rr with
          | nil => exact ⟨_, _, rfl, SqT.of hq, rfl, _, _, rfl, _, _, rfl, _, _, rfl, rfl, w _ H α Ext.refl ⟨s.heap, ((s.vs.set ra).set rb).set rc⟩⟩
          | cons _ _ => exact w.elim
  | _ => exact w.elim
noncomputable def cUn3 (i j k : Nat) (m : ME) : MS := fun env h => (m env h).bind fun d h1 => (gT3 i j k d env h1).bind fun e h2 => .ok (.nx e) h2
theorem s_un3 {i j k : Nat} {x y z : Str} {e : Expr} {me : ME} {px py pz pt pos : Pos} {kt} (hc : X.calm = true) (hN : X.N.Nodup) (hi : X.N[i]? = some x) (hj : X.N[j]? = some y) (hk : X.N[k]? = some z) (he : PE X e (tM X.K g ε me))
    (hx : Loc X.env.scope x := by first | exact Or.inl rfl | exact Or.inr rfl) (hy : Loc X.env.scope y := by first | exact Or.inl rfl | exact Or.inr rfl) (hz : Loc X.env.scope z := by first | exact Or.inl rfl | exact Or.inr rfl)
    (fx : X.fn x = true ∨ X.env.scope.names.lookup x = some .local := by first | exact .inl rfl | exact .inr rfl) (fy : X.fn y = true ∨ X.env.scope.names.lookup y = some .local := by first | exact .inl rfl | exact .inr rfl) (fz : X.fn z = true ∨ X.env.scope.names.lookup z = some .local := by first | exact .inl rfl | exact .inr rfl)
    (hs : swapsWithSole [.Tuple [.Name x px, .Name y py, .Name z pz] kt pt] e pos.line X.env = pure false := by rfl) (hw : swappedStores [.Tuple [.Name x px, .Name y py, .Name z pz] kt pt] e X.env = pure none := by rfl) :
    PS X (.Assign [.Tuple [.Name x px, .Name y py, .Name z pz] kt pt] e pos) (tMS X.K g ε (cUn3 i j k me)) :=
  PS.imp (ps_asg he (pg_tup hc (pgs_cons (pg_name hN hi hx fx) (pgs_cons (pg_name hN hj hy fy) (pgs_cons (pg_name hN hk hz fz) pgs_nil)))) hs hw rfl) fun E σ H ⟨α, env, h, s, w⟩ => tM.use s w.bind fun d1 h1 v1 H1 α1 e1 s1 r1 w1 => by
    refine ig_three (ε := ε) α1 H1 h1 env σ d1 v1 _ s1 r1 ((w1.ext e1).bind.mono fun e' h2 _ w2 σ2 H2 α2 e2 s2 => ?_)
    exact (show PostS X.K g α H E (.nx e') h2 from w2) H2 α2 (e1.trans e2) s2.heap σ2 s2.vs
end
end L2.FE
namespace L2
open PySem PySem.Spec PyProof.Rows
end L2
namespace L2.FE
open PySem PySem.Spec PyProof.Rows
section
variable {X : Cx} {g : GG} {ε : EE} {K : PySem.W.Frag}
noncomputable def blsOf : List D → Option (List Bool)
  | [] => some []
  | .bl b :: r => (blsOf r).map (b :: ·)
  | _ => none
theorem blsOf_some : ∀ {ds : List D} {bs : List Bool}, blsOf ds = some bs → ds = bs.map D.bl
  | [], _, e => by cases e; rfl
  | d :: ds, bs, e => by
    cases d with
    | bl b =>
      simp only [blsOf] at e
      cases e2 : blsOf ds with
      | none => rw [e2] at e; cases e
      | some cs =>
        rw [e2] at e
        cases e
        rw [blsOf_some e2]; rfl
    | _ => cases e
theorem RelDs.blsV {α : List Addr} {H : Hp} : ∀ {bs : List Bool} {vs : List V}, RelDs K g α H (bs.map D.bl) vs → vs = bs.map V.bl
  | [], _, .nil => rfl
  | b :: bs, _, .cons r t => by
    cases r
    rw [RelDs.blsV t]; rfl
noncomputable def locF (m : MF) : MF := fun ds h => if lowDs 0 ds = true then match m ds [] with
    | .ok d _ => if lowD 0 d = true then .ok d h else .bad
    | _ => .bad
  else m ds h
theorem loc_ext {α α' : List Addr} {H H' : Hp} (e : Ext K [] H α' H') : Ext K α H α H' :=
  ⟨⟨List.prefix_refl _, e.tup, e.frz⟩, fun p o h _ => e.keep p o h (by simp), fun p a b => absurd a b⟩
theorem loc_heap {α α' : List Addr} {H H' : Hp} {h : Hh} (e : Ext K [] H α' H') (r : HRel K g α H h) : HRel K g α H' h :=
  ⟨r.len, r.inj, fun n p o a b => (r.here n p o a b).ex0 (loc_ext (α := α) e).toEx0 fun u hu => e.keep p u hu (by simp)⟩
theorem loc_sp {np : Nat} {m : MF} {vs : List V} {H : Hp} {Q : VK} {E} (h : spM K g np (locF m) vs H Q E) : spM K g np m vs H Q E := by
  obtain ⟨hl, α, ds, h, rs, hh, w⟩ := h
  unfold locF at w
  by_cases lo : lowDs 0 ds = true
  · rw [if_pos lo] at w
    cases e : m ds [] with
    | bad => rw [e] at w; exact w.elim
    | err x h1 => rw [e] at w; exact w.elim
    | ok d h1 =>
      rw [e] at w
      simp only at w
      obtain ⟨ld, w⟩ := WQ.iteP w
      refine ⟨hl, [], ds, [], lows_rel ⟨fun n hn => absurd hn (Nat.not_lt_zero _), fun _ _ z => z, fun _ _ _ z => z⟩ lo rs, ⟨rfl, fun n m p a => by simp at a, fun n p o a => by simp at a⟩, ?_⟩
      rw [e]
      exact fun v H' α' ex hr' rd => (show Post K g α H Q d h from w) v H' α (loc_ext ex) (loc_heap ex hh) (low_rel ⟨fun n hn => absurd hn (Nat.not_lt_zero _), fun _ _ z => z, fun _ _ _ z => z⟩ ld rd)
  · rw [if_neg lo] at w
    exact ⟨hl, α, ds, h, rs, hh, w⟩
theorem fn_loc {P : Program} {w : World} {mg : Str → Option Value} {base : Heap} {k np : Nat} {f : Addr} {fd : FuncData} {ps : List Str} {m : MF} (F : FnOk P w K mg base CX0 k f fd ps (spM K g np m)) : FnOk P w K mg base CX0 k f fd ps (spM K g np (locF m)) :=
  ⟨fun vs H Q E h => F.len vs H Q E (loc_sp h), fun A outer s H args us vs Q E hr e0 hb hv hsp => F.run A outer s H args us vs Q E hr e0 hb hv (loc_sp hsp)⟩
end
end L2.FE
namespace L2
open PySem PySem.Spec PyProof.Rows
section
variable {prog : Program} {w : World} {A : Around} {E : Value → Shared → Prop} {s : Shared}
end
section
variable {prog : Program} {w : World} {A : Around} {E : Value → Shared → Prop} {s : Shared}
end
end L2
namespace L2.FE
open PySem PySem.Spec PyProof.Rows
section
variable {X : Cx} {g : GG} {ε : EE} {K : PySem.W.Frag}
end
end L2.FE
namespace L2
open PySem PySem.Spec PyProof.Rows PySem.Builtin
section
variable {X : Cx}
end
end L2
namespace L2.FE
open PySem PySem.Spec PyProof.Rows
section
variable {X : Cx} {g : GG} {ε : EE} {K : PySem.W.Frag}
end
end L2.FE
namespace L2
open PySem PySem.Spec PyProof.Rows
section
variable {prog : Program} {w : World} {A : Around} {E : Value → Shared → Prop} {s : Shared}
end
section
variable {X : Cx}
end
end L2
namespace L2.FE
open PySem PySem.Spec PyProof.Rows
section
variable {X : Cx} {g : GG} {ε : EE} {K : PySem.W.Frag}
theorem gof_of {mg : Str → Option Value} {x : Str} {f : Addr} (e : g = gOf mg) (h : mg x = some (.ref f)) : g x = some f := by rw [e]; simp [gOf, h]
end
end L2.FE
namespace L2
open PySem PySem.Spec PyProof.Rows
noncomputable def Its (lo st : Int) (n : Nat) : It := ⟨fun i _ => i < n, fun i H x H' => H' = H ∧ x = .int (lo + i * st), fun i _ => n ≤ i⟩
theorem turn_rngS {P : Program} {w : World} {K : PySem.W.Frag} {tg : Expr} (it : Addr) (lo st : Int) (n : Nat) : Turn P w K tg (Its lo st n) [it] it (fun i h => IsRangeIter h it (lo + (i : Nat) * st) ((n : Int) - (i : Nat)) st) where
  mem := by simp
  obj := fun i h q b hb => by
    have e : b = it := by simpa using hb
    subst e
    exact ⟨_, q, fun v z => by
      have z' : Data.fields _ = Data.cell v := z
      cases z'⟩
  keep := fun i h h' q k => k it (by simp) _ q
  item := by
    intro X hP hw hK hc i pins s σ H E I hf q hg
    subst hP hw hK
    obtain ⟨f0, f1, f2, f3, f4, f5⟩ := hf it (by simp)
    have W := Walks.range (prog := X.prog) (w := X.w) (I.ok.hd hc) it lo st n
    refine W.item i s _ _ hg q fun v h' tk hv q' kk => ?_
    obtain ⟨t, rfl⟩ := hv
    have I1 : Inv X pins σ H { s with heap := h', toks := tk } := I.turned (fun b o hb e => kk b o (by simpa using hb) e) f0 f1 f3 f4 f5
    exact ⟨_, rfl, go_of (s := { s with heap := h', toks := tk }) (n := "range_iterator") q' rfl rfl (by decide) ⟨.int (lo + i * st), H, I1, ⟨t, rfl⟩, ⟨rfl, rfl⟩, q', fun b hb => (hf b hb).1⟩⟩
  done := by
    intro X hP hw hK hc i pins s σ H E I hf q hg
    subst hP hw hK
    obtain ⟨f0, f1, f2, f3, f4, f5⟩ := hf it (by simp)
    exact wpAny_pyNext_range_end (I.ok.hd hc) q (by have : n ≤ i := hg; omega) fun h' eb => ⟨rfl, I.turned (t' := s.toks) (fun b o hb e => eb b o hb e) f0 f1 f3 f4 f5⟩
  self := fun _ _ _ _ _ q h => wpAny_pyIter_rangeiter q h
section
variable {X : Cx} {tg : Expr}
theorem rngS_it {pins : List (Addr × Obj)} {σ : St} {H : Hp} {s : Shared} {R : It → Hp → Prop} {E : Value → Shared → Prop} {lo hi st : Int} {n : Nat} {t u v : Tok} {tk : Nat} (I : Inv X pins σ H s) (ok : RngOk lo hi st n)
    (q : R (Its lo st n) H) : wpAny (model X.prog X.w) X.A (pyIter (.ref s.heap.objs.size)) (PIE X pins σ tg R) E { s with heap := s.heap.push { cls := .type "range", data := .fields #[.int lo t, .int hi u, .int st v] }, toks := tk } := by
  refine wpAny_pyIter_range (IsRange.new ..) ok.sm ?_
  have I1 : Inv X pins σ H { s with heap := s.heap.push { cls := .type "range", data := .fields #[.int lo t, .int hi u, .int st v] }, toks := tk } := I.kept fun b o e => Heap.get?_push_of_some _ e
  refine ⟨(s.heap.push { cls := .type "range", data := .fields #[.int lo t, .int hi u, .int st v] }).objs.size, [(s.heap.push { cls := .type "range", data := .fields #[.int lo t, .int hi u, .int st v] }).objs.size], _, _, H, rfl,
    I1.kept (t' := tk) fun b o e => Heap.get?_push_of_some _ e, turn_rngS _ lo st n, ?_, fun b hb => ?_, q⟩
  · have e1 : lo + ((0 : Nat) : Int) * st = lo := by simp
    have e2 : (n : Int) - ((0 : Nat) : Int) = Builtin.Range.rangeSize lo hi st := by rw [ok.sz]; omega
    show IsRangeIter _ _ (lo + ((0 : Nat) : Int) * st) ((n : Int) - ((0 : Nat) : Int)) st
    rw [e1, e2]
    exact Heap.get?_push_size _ rfl
  · have e : b = (s.heap.push { cls := .type "range", data := .fields #[.int lo t, .int hi u, .int st v] }).objs.size := by simpa using hb
    subst e
    exact I1.fpOk (Nat.le_refl _) (I1.hok.fresh (Nat.le_refl _))
noncomputable def iRng3 (ta : TA) : TI := fun σ H R => ta σ H fun vs H1 => ∃ (i j k : Int) (n : Nat), vs = [.int i, .int j, .int k] ∧ k ≠ 0 ∧ k.natAbs < 1073741824 ∧ RngOk i j k n ∧ R (Its i k n) H1
theorem pi_range3 {a b c : Expr} {ta : TA} {p pos : Pos} (hg : Gl X "range") (hm : X.mg "range" = none) (ha : PA X [a, b, c] ta) (hs : starEach [a, b, c] X.env = (false, eval a X.env) :: starEach [b, c] X.env := by rfl) (hp : (backTo pos (starEach [b, c] X.env)).any (·.1) = false := by rfl) :
    PI X tg (.Call (.Name "range" p) [a, b, c] [] pos) (iRng3 ta) := by
  intro pins s σ H R I h
  refine Call_ (ld_blt I hg hm boot_range (PyProof.Rows.callWith_type1 (thn (ha pos pins s σ H _ I h) fun us s1 ⟨vs, H1, I1, r1, q1⟩ => ?_) hs hp))
  obtain ⟨i, j, k, n, e, k0, k1, ok, q⟩ := q1
  subst e
  cases r1 with
  | cons r rr =>
    cases rr with
    | cons r' rr =>
      cases rr with
      | cons r'' rr =>
        cases rr
        obtain ⟨t, rfl⟩ := r
        obtain ⟨t', rfl⟩ := r'
        obtain ⟨t'', rfl⟩ := r''
        exact call_range_3 k0 (rngS_it I1 ok q) (.inl (PyProof.noPylong_small (by omega)))
end
end L2
namespace L2.FE
open PySem PySem.Spec PyProof.Rows
section
variable {X : Cx} {g : GG} {ε : EE} {K : PySem.W.Frag}
noncomputable def rngI3 : List D → Hh → R Src := fun ds h => match rng3 ds with
  | some xs => .ok (.snap xs) h
  | none => .bad
theorem reads_rngS {α : List Addr} {H : Hp} {lo st : Int} {n : Nat} : Reads K g (Its lo st n) (Src.snap (intsS lo st n)).rdr α H := by
  intro α2 H2 h2 x2 hr i
  show match some (intsS lo st n)[i]? with | none => True | some none => _ | some (some d) => _
  by_cases hi : i < n
  · have e : (intsS lo st n)[i]? = some (.int (lo + i * st)) := by
      unfold intsS
      rw [List.getElem?_map]
      simp [rngL, hi]
    rw [e]
    refine ⟨hi, fun x H' y => ?_⟩
    obtain ⟨rfl, rfl⟩ := y
    exact ⟨α2, Ext.refl, hr, .int _⟩
  · have e : (intsS lo st n)[i]? = none := List.getElem?_eq_none (by unfold intsS; rw [List.length_map, rngL_length]; omega)
    rw [e]
    show n ≤ i
    omega
theorem si_rng3 {tg a b c : Expr} {ma : MA} {p pos : Pos} (hg : Gl X "range") (hm : X.mg "range" = none) (ha : PA X [a, b, c] (tMA X.K g ε ma)) (hs : starEach [a, b, c] X.env = (false, eval a X.env) :: starEach [b, c] X.env := by rfl) (hp : (backTo pos (starEach [b, c] X.env)).any (·.1) = false := by rfl) : PI X tg (.Call (.Name "range" p) [a, b, c] [] pos) (tMI X.K g ε (cRng rngI3 ma)) :=
  PI.imp (pi_range3 hg hm ha hs hp) fun σ H T ⟨α, env, h, s, w⟩ => tMA.use s w.bind fun d1 h1 v1 H1 α1 e1 s1 r1 w1 => by
    unfold rngI3 at w1
    cases er : rng3 d1 with
    | none => rw [er] at w1; exact w1.elim
    | some xs =>
      rw [er] at w1
      obtain ⟨a, b, c, n, rfl, c0, c1, ok, rfl⟩ := rng3_rel r1 er
      exact ⟨a, b, c, n, rfl, c0, c1, ok, w1 _ H1 α1 e1 s1.heap reads_rngS⟩
end
end L2.FE
namespace L2.FE
open PySem
section
variable {β γ : Type} {h h1 : Hh} {env : En}
@[simp] theorem bind_ok {b : β} {f : β → Hh → R γ} : (R.ok b h).bind f = f b h := Eq.trans rfl rfl
@[simp] theorem bind_err {x : Xc} {f : β → Hh → R γ} : (R.err x h).bind f = .err x h := Eq.trans rfl rfl
@[simp] theorem bind_bad {f : β → Hh → R γ} : (R.bad).bind f = .bad := Eq.trans rfl rfl
@[simp] theorem bind_ite {c : Prop} [Decidable c] {a b : R β} {f : β → Hh → R γ} : (if c then a else b).bind f = if c then a.bind f else b.bind f := by split <;> rfl
@[simp] theorem e_C {d : D} : cC d env h = .ok d h := Eq.trans rfl rfl
@[simp] theorem e_var0 {d : D} {r : En} : cVar 0 (some d :: r) h = .ok d h := Eq.trans rfl rfl
@[simp] theorem e_varS {i : Nat} {x : Option D} {r : En} : cVar (i + 1) (x :: r) h = cVar i r h := Eq.trans rfl rfl
@[simp] theorem e_bin {f : D → D → Hh → R D} {a b : ME} : cBin f a b env h = (a env h).bind fun x h1 => (b env h1).bind fun y h2 => f x y h2 := Eq.trans rfl rfl
@[simp] theorem e_un {f : D → Hh → R D} {a : ME} : cUn f a env h = (a env h).bind fun x h1 => f x h1 := Eq.trans rfl rfl
@[simp] theorem e_nil : cNil env h = .ok [] h := Eq.trans rfl rfl
@[simp] theorem e_cons {a : ME} {r : MA} : cCons a r env h = (a env h).bind fun x h1 => (r env h1).bind fun xs h2 => .ok (x :: xs) h2 := Eq.trans rfl rfl
@[simp] theorem e_call {f : List D → Hh → R D} {a : MA} : cCall f a env h = (a env h).bind f := Eq.trans rfl rfl
@[simp] theorem e_methL {f : D → List D → Hh → R D} {o : ME} {a : MA} : cMethL f o a env h = (o env h).bind fun x h1 => if isL x h1 = true then (a env h1).bind fun xs h2 => f x xs h2 else .bad := Eq.trans rfl rfl
@[simp] theorem e_test {f : D → Hh → R Bool} {a : ME} : cTest f a env h = (a env h).bind f := Eq.trans rfl rfl
@[simp] theorem e_notT {a : MT} : cNotT a env h = (a env h).bind fun b h1 => .ok (!b) h1 := Eq.trans rfl rfl
@[simp] theorem e_andT {a b : MT} : cAndT a b env h = (a env h).bind fun x h1 => if x = true then b env h1 else .ok false h1 := Eq.trans rfl rfl
@[simp] theorem e_asB {b : Bool} : asB (.bl b) h = .ok b h := Eq.trans rfl rfl
@[simp] theorem e_andV {a b : ME} : cAndV a b env h = (a env h).bind fun x h1 => (asB x h1).bind fun k h2 => if k = true then b env h2 else .ok (.bl false) h2 := Eq.trans rfl rfl
@[simp] theorem e_notV {a : ME} : cNotV a env h = (a env h).bind fun x h1 => (asB x h1).bind fun k h2 => .ok (.bl (!k)) h2 := Eq.trans rfl rfl
@[simp] theorem e_chain {f f' : D → D → Hh → R D} {a b c : ME} : cChain f f' a b c env h = (a env h).bind fun x h1 => (b env h1).bind fun y h2 => (f x y h2).bind fun z h3 => (asB z h3).bind fun k h4 => if k = true then (c env h4).bind fun w h5 => f' y w h5 else .ok (.bl false) h4 := Eq.trans rfl rfl
noncomputable def partK : D → Hh → R (Option Int) := fun d h1 => match d with
  | .int i => .ok (some i) h1
  | _ => .bad
@[simp] theorem e_partK {i : Int} : partK (.int i) h = .ok (some i) h := Eq.trans rfl rfl
@[simp] theorem e_part {a : ME} : cPart a env h = (a env h).bind partK := Eq.trans rfl rfl
@[simp] theorem e_slice {nl : NL} {a : ME} {l u : MO} : cSlice nl a l u env h = (a env h).bind fun x h1 => (l env h1).bind fun lo h2 => (u env h2).bind fun hi h3 => dCut nl x lo hi h3 := Eq.trans rfl rfl
@[simp] theorem e_skip : cSkip env h = .ok (.nx env) h := Eq.trans rfl rfl
noncomputable def seqK (b : MS) : Fl → Hh → R Fl := fun fl h1 => match fl with
  | .nx e => b e h1
  | fl => .ok fl h1
@[simp] theorem k_nx {b : MS} {e : En} : seqK b (.nx e) h = b e h := Eq.trans rfl rfl
@[simp] theorem k_rt {b : MS} {d : D} : seqK b (.rt d) h = .ok (.rt d) h := Eq.trans rfl rfl
@[simp] theorem e_seq {a b : MS} : cSeq a b env h = (a env h).bind (seqK b) := by
  unfold cSeq
  first | rfl | (congr 1; funext fl h1; cases fl <;> rfl)
@[simp] theorem e_expr {a : ME} : cExpr a env h = (a env h).bind fun _ h1 => .ok (.nx env) h1 := Eq.trans rfl rfl
@[simp] theorem e_ret {a : ME} : cRet a env h = (a env h).bind fun d h1 => .ok (.rt d) h1 := Eq.trans rfl rfl
@[simp] theorem e_ifS {c : MT} {a b : MS} : cIfS c a b env h = (c env h).bind fun x h1 => if x = true then a env h1 else b env h1 := Eq.trans rfl rfl
@[simp] theorem e_set {i : Nat} {a : ME} : cSet i a env h = (a env h).bind fun d h1 => .ok (.nx (env.set i (some d))) h1 := Eq.trans rfl rfl
noncomputable def parK (i j : Nat) (env : En) : List D → Hh → R Fl := fun ds h1 => match ds with
  | [x, y] => .ok (.nx ((env.set i (some x)).set j (some y))) h1
  | _ => .bad
@[simp] theorem e_parK {i j : Nat} {x y : D} : parK i j env [x, y] h = .ok (.nx ((env.set i (some x)).set j (some y))) h := Eq.trans rfl rfl
@[simp] theorem e_par {i j : Nat} {a : MA} : cPar i j a env h = (a env h).bind (parK i j env) := by
  rfl
@[simp] theorem e_gN {i : Nat} {d : D} : gN i d env h = .ok (env.set i (some d)) h := Eq.trans rfl rfl
@[simp] theorem e_gT2 {i j : Nat} {x y : D} : gT2 i j (.tup [x, y]) env h = .ok ((env.set i (some x)).set j (some y)) h := Eq.trans rfl rfl
@[simp] theorem e_un2 {i j : Nat} {a : ME} : cUn2 i j a env h = (a env h).bind fun d h1 => (gT2 i j d env h1).bind fun e h2 => .ok (.nx e) h2 := Eq.trans rfl rfl
@[simp] theorem e_setIx {f : D → D → D → Hh → R Unit} {o i v : ME} : cSetIx f o i v env h = (v env h).bind fun x h1 => (o env h1).bind fun y h2 => (i env h2).bind fun z h3 => (f y z x h3).bind fun _ h4 => .ok (.nx env) h4 := Eq.trans rfl rfl
@[simp] theorem e_augIx {o i v : ME} : cAugIx o i v env h = (o env h).bind fun x h1 => (i env h1).bind fun y h2 => (dIxL x y h2).bind fun z h3 => (v env h3).bind fun u h4 => (dAddI z u h4).bind fun t h5 => (dSetIx x y t h5).bind fun _ h6 => .ok (.nx env) h6 := Eq.trans rfl rfl
noncomputable def finK : Fl → Hh → R D := fun fl h1 => match fl with
  | .rt d => .ok d h1
  | .nx _ => .ok .non h1
  | _ => .bad
@[simp] theorem f_rt {d : D} : finK (.rt d) h = .ok d h := Eq.trans rfl rfl
@[simp] theorem f_nx {e : En} : finK (.nx e) h = .ok .non h := Eq.trans rfl rfl
theorem e_fun {n : Nat} {m : MS} {ds : List D} : cFun n m ds h = (m (ds.map some ++ List.replicate (n - ds.length) none) h).bind finK := by
  unfold cFun
  first | rfl | (congr 1; funext fl h1; cases fl <;> rfl)
section
variable {nl : NL}
@[simp] theorem a_addI {i j : Int} : dAdd nl (.int i) (.int j) h = .ok (.int (i + j)) h := Eq.trans rfl rfl
@[simp] theorem a_addII {i j : Int} : dAddI (.int i) (.int j) h = .ok (.int (i + j)) h := Eq.trans rfl rfl
@[simp] theorem a_subI {i j : Int} : dSub (.int i) (.int j) h = .ok (.int (i - j)) h := Eq.trans rfl rfl
@[simp] theorem a_negI {i : Int} : dNeg (.int i) h = .ok (.int (-i)) h := Eq.trans rfl rfl
@[simp] theorem a_ltI {i j : Int} : dLt (.int i) (.int j) h = .ok (.bl (decide (i < j))) h := by unfold dLt; rw [ltI_eq]; rfl
@[simp] theorem a_leI {i j : Int} : dLe (.int i) (.int j) h = .ok (.bl (decide (i ≤ j))) h := by unfold dLe; rw [leI_eq]; rfl
@[simp] theorem a_gtI {i j : Int} : dGt (.int i) (.int j) h = .ok (.bl (decide (j < i))) h := by unfold dGt; rw [ltI_eq]; rfl
@[simp] theorem a_geI {i j : Int} : dGe (.int i) (.int j) h = .ok (.bl (decide (j ≤ i))) h := by unfold dGe; rw [leI_eq]; rfl
@[simp] theorem a_mulI {i j : Int} : dMul nl (.int i) (.int j) h = if sml i = true ∧ sml j = true then .ok (.int (i * j)) h else .bad := Eq.trans rfl rfl
@[simp] theorem a_divI {i j : Int} : dDiv (.int i) (.int j) h = if 0 < j ∧ sml j = true then .ok (.int (i / j)) h else .bad := Eq.trans rfl rfl
@[simp] theorem a_modI {i j : Int} : dMod (.int i) (.int j) h = if 0 < j then .ok (.int (i % j)) h else .bad := Eq.trans rfl rfl
@[simp] theorem a_powI {i j : Int} : dPow (.int i) (.int j) h = if 0 ≤ j ∧ j.natAbs ≤ 1000 ∧ sml i = true then .ok (.int (i ^ j.toNat)) h else .bad := Eq.trans rfl rfl
@[simp] theorem a_max2 {i j : Int} : dMax2 [.int i, .int j] h = .ok (.int (max i j)) h := by
  have : (if j > i then j else i) = max i j := by split <;> omega
  rw [← this]; rfl
@[simp] theorem a_intB {b : Bool} : dInt [.bl b] h = .ok (.int (if b then 1 else 0)) h := Eq.trans rfl rfl
@[simp] theorem a_tup {ds : List D} : dTup ds h = if ds.length ≤ 1000000 then .ok (.tup ds) h else .bad := Eq.trans rfl rfl
@[simp] theorem a_lst {ds : List D} : dLst nl ds h = if ds.length ≤ 1000000 then nl ds h else .bad := Eq.trans rfl rfl
@[simp] theorem a_newL {ds : List D} : newL ds h = .ok (.ref h.length) (h ++ [.lst ds]) := Eq.trans rfl rfl
@[simp] theorem a_frzL {ds : List D} : frzL ds h = .ok (.frl ds) h := Eq.trans rfl rfl
@[simp] theorem a_lenF {ds : List D} : dLen [.frl ds] h = .ok (.int ds.length) h := Eq.trans rfl rfl
@[simp] theorem a_lenC {ds : List D} : dLen [.scr ds] h = .ok (.int ds.length) h := Eq.trans rfl rfl
noncomputable def ixK (ds : List D) (i : Int) (h : Hh) : R D := match atI ds i with
  | some d => .ok d h
  | none => .bad
@[simp] theorem a_ixF {ds : List D} {i : Int} : dIx (.frl ds) (.int i) h = ixK ds i h := Eq.trans rfl rfl
@[simp] theorem a_ixC {ds : List D} {i : Int} : dIx (.scr ds) (.int i) h = ixK ds i h := Eq.trans rfl rfl
theorem a_ixL {n : Nat} {ds : List D} {i : Int} (e : lstOf h n = some ds) : dIx (.ref n) (.int i) h = ixK ds i h := by
  have z : seqOf (.ref n) h = some ds := e
  delta dIx; rw [z]; rfl
theorem ixK_of {ds : List D} {i : Int} {d : D} (e : atI ds i = some d) : ixK ds i h = .ok d h := by simp only [ixK, e]
theorem atI_nat' {β : Type} {xs : List β} {j : Nat} {v : β} {i : Int} (h : xs[j]? = some v) (e : i = (j : Int)) : atI xs i = some v := by rw [e]; exact atI_nat h
theorem ixK_nat {ds : List D} {i : Int} {j : Nat} {d : D} (e : i = (j : Int)) (e2 : ds[j]? = some d) : ixK ds i h = .ok d h := ixK_of (atI_nat' e2 e)
noncomputable def gI (ns : List Int) (i : Nat) : Int := ns.getD i 0
theorem gI_eq {ns : List Int} {j : Nat} (hj : j < ns.length) : gI ns j = ns[j] := by
  unfold gI; rw [List.getD_eq_getElem?_getD, List.getElem?_eq_getElem hj]; rfl
theorem ixK_int {ns : List Int} {i : Int} {j : Nat} (e : i = (j : Int)) (hj : j < ns.length) : ixK (ns.map D.int) i h = .ok (.int (gI ns j)) h := by
  refine ixK_nat e ?_
  rw [List.getElem?_map, List.getElem?_eq_getElem hj, gI_eq hj]; rfl
@[simp] theorem ixK_0 {d : D} {ds : List D} : ixK (d :: ds) 0 h = .ok d h := ixK_nat (j := 0) rfl rfl
@[simp] theorem ixK_1 {d d1 : D} {ds : List D} : ixK (d :: d1 :: ds) 1 h = .ok d1 h := ixK_nat (j := 1) rfl rfl
@[simp] theorem a_cutC {ds : List D} {lo hi : Option Int} : dCut nl (.scr ds) lo hi h = nl (cutD ds lo hi) h := Eq.trans rfl rfl
@[simp] theorem a_addT {a b : List D} : dAdd nl (.tup a) (.tup b) h = if a.length + b.length ≤ 1000000 then .ok (.tup (a ++ b)) h else .bad := Eq.trans rfl rfl
@[simp] theorem a_addF {a b : List D} : dAdd nl (.frl a) (.frl b) h = if a.length + b.length ≤ 1000000 then nl (a ++ b) h else .bad := Eq.trans rfl rfl
@[simp] theorem a_mulF {a : List D} {k : Int} : dMul nl (.frl a) (.int k) h = if k.natAbs ≤ 1000000 ∧ a.length * k.toNat ≤ 1000000 then nl (List.replicate k.toNat a).flatten h else .bad := Eq.trans rfl rfl
@[simp] theorem a_sumF {ns : List Int} : dSum [.frl (ns.map D.int)] h = .ok (.int ns.sum) h := by simp only [dSum, seqOf, intsOf_map]
@[simp] theorem a_sumT {ns : List Int} : dSum [.tup (ns.map D.int)] h = .ok (.int ns.sum) h := by simp only [dSum, seqOf, intsOf_map]
@[simp] theorem a_truB {b : Bool} : dTru (.bl b) h = .ok b h := Eq.trans rfl rfl
@[simp] theorem a_eqI {i j : Int} : dEq (.int i) (.int j) h = .ok (.bl (i == j)) h := Eq.trans rfl rfl
@[simp] theorem a_neS {i j : Str} : dNe (.str i) (.str j) h = .ok (.bl (!(i == j))) h := Eq.trans rfl rfl
@[simp] theorem a_isII {i : Int} : dIsI "int" (.int i) h = .ok (.bl true) h := Eq.trans rfl rfl
@[simp] theorem a_isBI {i : Int} : dIsI "bool" (.int i) h = .ok (.bl false) h := Eq.trans rfl rfl
@[simp] theorem a_isLT {ds : List D} : dIsI "list" (.tup ds) h = .ok (.bl false) h := Eq.trans rfl rfl
@[simp] theorem lst_new {ds : List D} {t : Hh} : lstOf (h ++ .lst ds :: t) h.length = some ds := by
  unfold lstOf; rw [List.getElem?_append_right (Nat.le_refl _)]; simp
@[simp] theorem set_new {o o' : O} {t : Hh} : (h ++ o :: t).set h.length o' = h ++ o' :: t := by
  rw [List.set_append_right _ _ (Nat.le_refl _)]; simp
@[simp] theorem lst_new1 {o : O} {ds : List D} {t : Hh} : lstOf (h ++ o :: .lst ds :: t) (h.length + 1) = some ds := by
  unfold lstOf; rw [List.getElem?_append_right (by omega)]; simp
theorem isL_of {n : Nat} {ds : List D} (e : lstOf h n = some ds) : isL (.ref n) h = true := by simp [isL, e]
theorem a_append {n : Nat} {ds : List D} {d : D} (e : lstOf h n = some ds) : dAppend (.ref n) [d] h = if ds.length < 1000000 then .ok .non (h.set n (.lst (ds ++ [d]))) else .bad := by delta dAppend; dsimp only; rw [e]
theorem a_lenL {n : Nat} {ds : List D} (e : lstOf h n = some ds) : dLen [.ref n] h = .ok (.int ds.length) h := by
  unfold lstOf at e
  split at e
  · rename_i ds' q; cases e; delta dLen; dsimp only; rw [q]
  · cases e
theorem a_setIx {n : Nat} {ds : List D} {i : Int} {j : Nat} {v : D} (e : lstOf h n = some ds) (e2 : ixN ds.length i = some j) : dSetIx (.ref n) (.int i) v h = .ok () (h.set n (.lst (ds.set j v))) := by delta dSetIx; dsimp only; rw [e]; dsimp only; rw [e2]
theorem a_extend {n : Nat} {xs ys : List D} {d : D} (e : lstOf h n = some xs) (e2 : lsOf d h = some ys) : dExtend (.ref n) [d] h = if xs.length + ys.length ≤ 1000000 then .ok .non (h.set n (.lst (xs ++ ys))) else .bad := by delta dExtend; dsimp only; rw [e, e2]
@[simp] theorem isL_n0 {ds : List D} {t : Hh} : isL (.ref h.length) (h ++ .lst ds :: t) = true := isL_of lst_new
@[simp] theorem a_append0 {ds : List D} {d : D} {t : Hh} : dAppend (.ref h.length) [d] (h ++ .lst ds :: t) = if ds.length < 1000000 then .ok .non (h ++ .lst (ds ++ [d]) :: t) else .bad := by rw [a_append lst_new, set_new]
@[simp] theorem a_extend0 {ds ys : List D} {t : Hh} : dExtend (.ref h.length) [.frl ys] (h ++ .lst ds :: t) = if ds.length + ys.length ≤ 1000000 then .ok .non (h ++ .lst (ds ++ ys) :: t) else .bad := by rw [a_extend lst_new rfl, set_new]
@[simp] theorem q_lst0 {ds : List D} {t : Hh} : seqI (.ref h.length) (h ++ .lst ds :: t) = .ok (.live h.length) (h ++ .lst ds :: t) := by simp only [seqI, lst_new]
theorem ixN_nat {n j : Nat} {i : Int} (e : i = (j : Int)) (hj : j < n) : ixN n i = some j := by
  subst e
  unfold ixN
  rw [if_pos (by omega), if_pos (by omega)]; simp
end
@[simp] theorem i_rng1 {a : MA} : cRng rng1 a env h = (a env h).bind rng1 := Eq.trans rfl rfl
@[simp] theorem r_rng1 {j : Int} : rng1 [.int j] h = if j.natAbs ≤ 1000000 then .ok (.snap (intsD 0 j.toNat)) h else .bad := Eq.trans rfl rfl
@[simp] theorem i_seq {a : ME} : cSeqI a env h = (a env h).bind seqI := Eq.trans rfl rfl
@[simp] theorem i_enum {a : ME} : cEnumI a env h = (a env h).bind enumI := Eq.trans rfl rfl
@[simp] theorem q_frl {ds : List D} : seqI (.frl ds) h = .ok (.snap ds) h := Eq.trans rfl rfl
@[simp] theorem e_gT3 {i j k : Nat} {x y z : D} : gT3 i j k (.tup [x, y, z]) env h = .ok (((env.set i (some x)).set j (some y)).set k (some z)) h := Eq.trans rfl rfl
@[simp] theorem e_un3 {i j k : Nat} {a : ME} : cUn3 i j k a env h = (a env h).bind fun d h1 => (gT3 i j k d env h1).bind fun e h2 => .ok (.nx e) h2 := Eq.trans rfl rfl
@[simp] theorem q_enumF {ds : List D} : enumI (.frl ds) h = .ok (.snap (enumD ds)) h := Eq.trans rfl rfl
theorem q_lst {n : Nat} {ds : List D} (e : lstOf h n = some ds) : seqI (.ref n) h = .ok (.live n) h := by simp only [seqI, e]
noncomputable def srcK (tg : D → En → Hh → R En) (body : MS) (env : En) : Src → Hh → R Fl := fun sr h1 => match sr with
  | .snap ds => forS tg body ds env h1
  | .live n => forG (Src.live n).rdr tg body ((lstOf h1 n).getD []).length 0 env h1
  | .liveE n => forG (Src.liveE n).rdr tg body ((lstOf h1 n).getD []).length 0 env h1
@[simp] theorem e_snap {tg : D → En → Hh → R En} {body : MS} {ds : List D} : srcK tg body env (.snap ds) h = forS tg body ds env h := Eq.trans rfl rfl
@[simp] theorem e_for {mi : MI} {tg : D → En → Hh → R En} {body : MS} : cFor mi tg body env h = (mi env h).bind (srcK tg body env) := by
  unfold cFor
  congr 1
noncomputable def cmpK (nl : NL) (tt : MT) (te : ME) (ee : D → En) : Src → Hh → R D := fun sr h1 => if sr.fuel h1 ≤ 1000000 then
  (match sr with
    | .snap ds => compS tt te ee ds h1
    | .live n => compG (Src.live n).rdr tt te ee ((lstOf h1 n).getD []).length 0 [] h1
    | .liveE n => compG (Src.liveE n).rdr tt te ee ((lstOf h1 n).getD []).length 0 [] h1).bind nl else .bad
@[simp] theorem e_comp {nl : NL} {mi : MI} {ix : List Nat} {tt : MT} {te : ME} : cComp nl mi ix tt te env h = (mi env h).bind (cmpK nl tt te (capE ix env)) := Eq.trans rfl rfl
@[simp] theorem e_csnap {nl : NL} {tt : MT} {te : ME} {ee : D → En} {ds : List D} : cmpK nl tt te ee (.snap ds) h = if ds.length ≤ 1000000 then (compS tt te ee ds h).bind nl else .bad := Eq.trans rfl rfl
@[simp] theorem intsD_len {lo : Int} {n : Nat} : (intsD lo n).length = n := by simp [intsD]
@[simp] theorem e_cap {ix : List Nat} : capE ix env = fun d => some d :: ix.map fun i => (env[i]?).join := Eq.trans rfl rfl
noncomputable def forK (tg : D → En → Hh → R En) (body : MS) (ds : List D) : Fl → Hh → R Fl := fun fl h2 => match fl with
  | .nx e => forS tg body ds e h2
  | .ct e => forS tg body ds e h2
  | .bk e => .ok (.nx e) h2
  | .rt d => .ok (.rt d) h2
theorem for_nil {tg : D → En → Hh → R En} {body : MS} : forS tg body [] env h = .ok (.nx env) h := rfl
theorem for_cons {tg : D → En → Hh → R En} {body : MS} {d : D} {ds : List D} : forS tg body (d :: ds) env h = (tg d env h).bind fun e1 h1 => (body e1 h1).bind (forK tg body ds) := rfl
@[simp] theorem fk_nx {tg : D → En → Hh → R En} {body : MS} {ds : List D} {e : En} : forK tg body ds (.nx e) h = forS tg body ds e h := Eq.trans rfl rfl
theorem enum_ints (ns : List Int) : enumD (ns.map D.int) = (List.range ns.length).map fun (i : Nat) => D.tup [.int i, .int (gI ns i)] := by
  unfold enumD
  rw [List.length_map]
  apply List.map_congr_left
  intro i hi
  have hi : i < ns.length := List.mem_range.mp hi
  rw [List.getD_eq_getElem?_getD, List.getElem?_map, List.getElem?_eq_getElem hi, gI_eq hi]; rfl
theorem comp_map {X : Type} {tt : MT} {te : ME} {ee : D → En} (enc : X → D) (p : X → Bool) (g : X → D) : ∀ (xs : List X), (∀ x ∈ xs, tt (ee (enc x)) h = .ok (p x) h ∧ (p x = true → te (ee (enc x)) h = .ok (g x) h)) →
    compS tt te ee (xs.map enc) h = .ok ((xs.filter p).map g) h
  | [], _ => rfl
  | x :: xs, st => by
    obtain ⟨e1, e2⟩ := st x List.mem_cons_self
    have ih := comp_map enc p g xs fun y hy => st y (List.mem_cons_of_mem _ hy)
    rw [List.map_cons, compS, e1, bind_ok]
    cases hp : p x with
    | false => rw [if_neg Bool.false_ne_true, ih, List.filter_cons_of_neg (by simp [hp])]
    | true => rw [if_pos rfl, e2 hp, bind_ok, ih, bind_ok, List.filter_cons_of_pos hp, List.map_cons]
theorem comp_all {X : Type} {te : ME} {ee : D → En} (enc : X → D) (g : X → D) (xs : List X) (st : ∀ x ∈ xs, te (ee (enc x)) h = .ok (g x) h) : compS tt1 te ee (xs.map enc) h = .ok (xs.map g) h := by
  have := comp_map (tt := tt1) (ee := ee) (h := h) enc (fun _ => true) g xs fun x hx => ⟨rfl, fun _ => st x hx⟩
  rw [List.filter_eq_self.mpr fun _ _ => rfl] at this
  exact this
theorem ints_zero (n : Nat) : intsD 0 n = (List.range n).map fun (i : Nat) => D.int i := by
  unfold intsD
  apply List.map_congr_left
  intro i _
  rw [Int.zero_add]
theorem comp_rngA {n : Nat} {te : ME} {ee : D → En} (g : Nat → D) (st : ∀ i, i < n → te (ee (.int (i : Nat))) h = .ok (g i) h) :
    compS tt1 te ee (intsD 0 n) h = .ok ((List.range n).map g) h := by
  rw [ints_zero, comp_all (fun (i : Nat) => D.int i) g (List.range n) fun i hi => st i (List.mem_range.mp hi)]
theorem for_idx {σ : Type} {tg : D → En → Hh → R En} {body : MS} (enc : Nat → D) (n : Nat) (E : σ → En) (G : σ → Hh) (f : σ → Nat → σ) (I : Nat → σ → Prop) (s : σ) (i0 : I 0 s)
    (st : ∀ i s, i < n → I i s → I (i + 1) (f s i) ∧ ((tg (enc i) (E s) (G s)).bind body = .ok (.nx (E (f s i))) (G (f s i)) ∨ (tg (enc i) (E s) (G s)).bind body = .ok (.ct (E (f s i))) (G (f s i)))) :
    forS tg body ((List.range n).map enc) (E s) (G s) = .ok (.nx (E ((List.range n).foldl f s))) (G ((List.range n).foldl f s)) ∧ I n ((List.range n).foldl f s) := by
  have key : ∀ (k : Nat) (xs : List Nat) (s : σ), (∀ j x, xs[j]? = some x → x = k + j ∧ x < n) → I k s → forS tg body (xs.map enc) (E s) (G s) = .ok (.nx (E (xs.foldl f s))) (G (xs.foldl f s)) ∧ I (k + xs.length) (xs.foldl f s) := by
    intro k xs
    induction xs generalizing k with
    | nil => intro s _ i; exact ⟨rfl, i⟩
    | cons x xs ih =>
      intro s hx i
      obtain ⟨h1, h2⟩ := hx 0 x rfl
      have h1 : x = k := by omega
      subst h1
      obtain ⟨i1, e⟩ := st x s h2 i
      obtain ⟨e2, i2⟩ := ih (x + 1) (f s x) (fun j y hj => by have := hx (j + 1) y hj; omega) i1
      refine ⟨?_, by rw [List.length_cons, List.foldl_cons]; rw [show x + (xs.length + 1) = x + 1 + xs.length by omega]; exact i2⟩
      rw [List.map_cons, forS, ← bind_bind]
      rcases e with e | e <;> rw [e] <;> exact e2
  have hr : ∀ j x, (List.range n)[j]? = some x → x = 0 + j ∧ x < n := fun j x hj => by
    have hl : j < n := by
      by_cases hl : j < n
      · exact hl
      · rw [List.getElem?_eq_none (by simpa using hl)] at hj; cases hj
    rw [List.getElem?_range hl] at hj
    cases hj
    omega
  have := key 0 (List.range n) s hr i0
  rw [List.length_range, Nat.zero_add] at this
  exact this
theorem for_rng {σ : Type} {tg : D → En → Hh → R En} {body : MS} (n : Nat) (E : σ → En) (G : σ → Hh) (f : σ → Nat → σ) (I : Nat → σ → Prop) (s : σ) (i0 : I 0 s)
    (st : ∀ i s, i < n → I i s → I (i + 1) (f s i) ∧ ((tg (.int (i : Nat)) (E s) (G s)).bind body = .ok (.nx (E (f s i))) (G (f s i)) ∨ (tg (.int (i : Nat)) (E s) (G s)).bind body = .ok (.ct (E (f s i))) (G (f s i)))) :
    forS tg body (intsD 0 n) (E s) (G s) = .ok (.nx (E ((List.range n).foldl f s))) (G ((List.range n).foldl f s)) ∧ I n ((List.range n).foldl f s) := by
  rw [ints_zero]
  exact for_idx (fun (i : Nat) => D.int i) n E G f I s i0 st
noncomputable def Wf (h : Hh) : Prop := h.all (lowO h.length) = true
mutual
theorem lowD_mono {j k : Nat} (h : j ≤ k) : ∀ (d : D), lowD j d = true → lowD k d = true
  | .non, _ => rfl | .bl _, _ => rfl | .int _, _ => rfl | .str _, _ => rfl | .fn _, _ => rfl | .edic, _ => rfl | .exc _ _, _ => rfl
  | .ref n, e => by simp only [lowD, decide_eq_true_eq] at e ⊢; omega
  | .tup ds, e => by simp only [lowD] at e ⊢; exact lowDs_mono h ds e
  | .frl ds, e => by simp only [lowD] at e ⊢; exact lowDs_mono h ds e
  | .scr ds, e => by simp only [lowD] at e ⊢; exact lowDs_mono h ds e
theorem lowDs_mono {j k : Nat} (h : j ≤ k) : ∀ (ds : List D), lowDs j ds = true → lowDs k ds = true
  | [], _ => rfl
  | d :: ds, e => by
    simp only [lowDs, Bool.and_eq_true] at e ⊢
    exact ⟨lowD_mono h d e.1, lowDs_mono h ds e.2⟩
end
theorem lowO_mono {j k : Nat} (h : j ≤ k) (o : O) (e : lowO j o = true) : lowO k o = true := by
  cases o with
  | lst ds => exact lowDs_mono h ds e
  | set n => rfl
  | dic kvs => exact lowDs_mono h _ e
  | dit kvs => exact lowDs_mono h _ e
theorem lowDs_all {k : Nat} : ∀ {ds : List D}, (∀ d ∈ ds, lowD k d = true) → lowDs k ds = true
  | [], _ => rfl
  | d :: ds, h => by simp only [lowDs, Bool.and_eq_true]; exact ⟨h d List.mem_cons_self, lowDs_all fun e he => h e (List.mem_cons_of_mem _ he)⟩
@[simp] theorem lowDs_map {X : Type} {k : Nat} {f : X → D} {xs : List X} (h : ∀ x, lowD k (f x) = true) : lowDs k (xs.map f) = true := lowDs_all fun d hd => by
  obtain ⟨x, _, rfl⟩ := List.mem_map.mp hd; exact h x
@[simp] theorem lowDs_ints {k : Nat} {ns : List Int} : lowDs k (ns.map D.int) = true := lowDs_map fun _ => rfl
theorem Wf.nil : Wf [] := rfl
theorem Wf.app {h : Hh} {o : O} (w : Wf h) (l : lowO (h.length + 1) o = true) : Wf (h ++ [o]) := by
  unfold Wf at w ⊢
  rw [List.all_append, List.length_append, List.length_singleton]
  simp only [List.all_cons, List.all_nil, Bool.and_true, Bool.and_eq_true]
  refine ⟨?_, l⟩
  rw [List.all_eq_true] at w ⊢
  exact fun x hx => lowO_mono (Nat.le_succ _) x (w x hx)
noncomputable def deep : Nat → D → Bool
  | 0, _ => false
  | f + 1, d => match d with
    | .ref _ => false
    | .scr _ => false
    | .tup ds => ds.all (deep f)
    | .frl ds => ds.all (deep f)
    | _ => true
theorem mapO_id {f : D → Option D} : ∀ {ds : List D}, (∀ d ∈ ds, f d = some d) → mapO f ds = some ds
  | [], _ => rfl
  | d :: ds, h => by simp only [mapO, h d List.mem_cons_self, mapO_id fun e he => h e (List.mem_cons_of_mem _ he)]
theorem frzD_deep {k : Nat} {h : Hh} : ∀ (f : Nat) (d : D), deep f d = true → frzD k h f d = some d
  | 0, _, e => by cases e
  | f + 1, d, e => by
    unfold deep at e
    unfold frzD
    cases d with
    | ref n => cases e
    | scr n => cases e
    | tup ds => simp only [List.all_eq_true] at e; show Option.map D.tup (mapO (frzD k h f) ds) = _; rw [mapO_id (f := frzD k h f) fun d hd => frzD_deep f d (e d hd)]; rfl
    | frl ds => simp only [List.all_eq_true] at e; show Option.map D.frl (mapO (frzD k h f) ds) = _; rw [mapO_id (f := frzD k h f) fun d hd => frzD_deep f d (e d hd)]; rfl
    | _ => rfl
theorem exitF_deep {d : D} {t : Hh} (w : Wf h) (e : deep 8 d = true) : exitF h d (h ++ t) = .ok d h := by
  unfold exitF
  rw [List.take_left' rfl, if_pos (show h.all (lowO h.length) = true from w), frzD_deep 8 d e]
@[simp] theorem deep_int {f : Nat} {i : Int} : deep (f + 1) (.int i) = true := rfl
@[simp] theorem deep_bl {f : Nat} {i : Bool} : deep (f + 1) (.bl i) = true := rfl
@[simp] theorem deep_str {f : Nat} {i : Str} : deep (f + 1) (.str i) = true := rfl
@[simp] theorem deep_non {f : Nat} : deep (f + 1) .non = true := rfl
@[simp] theorem deep_edic {f : Nat} : deep (f + 1) .edic = true := rfl
@[simp] theorem deep_tup {f : Nat} {ds : List D} : deep (f + 1) (.tup ds) = ds.all (deep f) := rfl
@[simp] theorem deep_frl {f : Nat} {ds : List D} : deep (f + 1) (.frl ds) = ds.all (deep f) := rfl
end
section
variable {β γ : Type} {Q : β → Hh → Prop} {h h1 h2 : Hh}
end
end L2.FE
namespace L2.FE
open PySem PySem.Spec PyProof.Rows
noncomputable def dicOf (h : Hh) (n : Nat) : Option (List (Key × D)) := match h[n]? with
  | some (.dic kvs) => some kvs
  | _ => none
noncomputable abbrev PD (K : PySem.W.Frag) (g : GG) (α : List Addr) (H : Hp) : List (Key × D) → List (Key × V) → Prop := Paired (fun (a : Key × D) (b : Key × V) => a.1 = b.1 ∧ RelD K g α H a.2 b.2)
section
variable {K : PySem.W.Frag} {g : GG} {α : List Addr} {H : Hp} {h : Hh}
theorem HRel.dic {n : Nat} {p : Addr} {kvs : List (Key × D)} (r : HRel K g α H h) (e : dicOf h n = some kvs) (hp : α[n]? = some p) : ∃ kws, H p = some (.dK kws) ∧ PD K g α H kvs kws := by
  unfold dicOf at e
  cases eo : h[n]? with
  | none => rw [eo] at e; cases e
  | some o =>
    rw [eo] at e
    cases o with
    | dic k => cases e; exact r.here n p _ hp eo
    | _ => cases e
theorem PD.ext {α' : List Addr} {H' : Hp} {kvs : List (Key × D)} {kws : List (Key × V)} (e : Ext K α H α' H') (r : PD K g α H kvs kws) : PD K g α' H' kvs kws := Paired.mapD e.toEx0 r
theorem Post.dic {Q : VK} {kvs : List (Key × D)} {kws : List (Key × V)} {p : Addr} (w : Post K g α H Q (.ref h.length) (h ++ [.dic kvs])) (r : HRel K g α H h) (rs : PD K g α H kvs kws) (hp : H p = none) : Q (.ref p) (upd H p (.dK kws)) := by
  have x := Ext.push (K := K) (α := α) (o := .dK kws) hp
  exact w _ _ _ x (r.push hp ⟨_, upd_same, rs.ext x⟩) (.ref (by rw [← r.len]; simp))
end
section
variable {X : Cx} {g : GG} {ε : EE} {o i e f : Expr} {mo mi me mf : ME} {pos : Pos}
end
end L2.FE
namespace L2
open PySem PySem.Spec PyProof.Rows
theorem mapF_cls (o : Obj) (f : Array Value → Array Value) : (Obj.mapFields f o).cls = o.cls := Obj.cls_mapFields _ _
theorem mapF_dict (o : Obj) (f : Array Value → Array Value) : (Obj.mapFields f o).dict = o.dict := by
  unfold Obj.mapFields
  split <;> rfl
structure Gn (h h' : Heap) : Prop where
  up : h.UpToSlots h'
  there : ∀ b o, h.get? b = some o → ∃ o', h'.get? b = some o'
theorem Gn.trans {h h1 h2 : Heap} (a : Gn h h1) (b : Gn h1 h2) : Gn h h2 := ⟨a.up.trans b.up, fun c o q => let ⟨_, q'⟩ := a.there c o q; b.there c _ q'⟩
structure Fly (B : Heap) (l : List Env) (e : Addr) (C : Value) (dc : Option Addr) (fl : Value) (h : Heap) : Prop where
  stays : B.StaysIn h
  new : B.get? e = none
  fr : h.FunFrames B l
  obj : ∃ oe ws T oT ts, h.get? e = some oe ∧ oe.cls = C ∧ oe.dict = dc ∧ oe.data = .fields ws ∧ ws[1]? = some (.ref T) ∧ B.get? T = none ∧ T ≠ e ∧ h.get? T = some oT ∧ oT.data = .fields ts ∧ ts[3]? = some fl
theorem Fly.pop {B : Heap} {env : Env} {l : List Env} {e : Addr} {C : Value} {dc : Option Addr} {fl : Value} {h : Heap} (x : Fly B (env :: l) e C dc fl h) : Fly B l e C dc fl h :=
  ⟨x.stays, x.new, x.fr.2.2, x.obj⟩
theorem Fly.there {B : Heap} {l : List Env} {e : Addr} {C : Value} {dc : Option Addr} {fl : Value} {h : Heap} (x : Fly B l e C dc fl h) : ∃ oe ws, h.get? e = some oe ∧ oe.cls = C ∧ oe.dict = dc ∧ oe.data = .fields ws := by
  obtain ⟨oe, ws, T, oT, ts, a, b, c, d, _⟩ := x.obj
  exact ⟨oe, ws, a, b, c, d⟩
section
variable {M : Model} {A : Around} {E : Value → Shared → Prop} {s : Shared} {B : Heap} {env : Env} {l outer : List Env} {e L : Addr} {C : Value} {dc : Option Addr} {fl : Value} {Q : Unit → Shared → Prop}
theorem fly_set (x : Fly B l e C dc fl s.heap) (k : ∀ h', Fly B l e C dc .none h' → Gn s.heap h' → Q () { s with heap := h' }) : wpAny M A (setFlight (.ref e) none) Q E s := by
  obtain ⟨st, nw, fr, oe, ws, T, oT, ts, q1, q2, q3, q4, q5, q6, q7, q8, q9, q10⟩ := x
  have hlt : 3 < ts.size := (Array.getElem?_eq_some_iff.mp q10).1
  have off : ∀ b, b ≠ T → (s.heap.update T (Obj.mapFields (·.setIfInBounds 3 ((none : Option Addr).elim Value.none fun f => rawInt f)))).get? b = s.heap.get? b := fun b z => Heap.get?_update_other _ _ (Ne.symm z)
  have noF : ∀ b o, s.heap.get? b = some o → (∀ vs, o.data ≠ .fields vs) → b ≠ T := by
    rintro b o q n rfl
    rw [q8] at q; cases q; exact n ts q9
  unfold setFlight
  refine wpAny_bind (wpAny_field q1 q4 q5 ?_)
  rw [if_pos (by simp : (Value.ref T != Value.none) = true)]
  refine wpAny_setField q8 q9 hlt (k _ ⟨fun b o q => (off b ?_).trans (st b o q), nw, fr.of_keeps fun b o q n => ⟨o, (off b (noF b o q n)).trans q, rfl⟩, oe, ws, T, _, _, (off e (Ne.symm q7)).trans q1, q2, q3, q4, q5, q6, q7, Heap.get?_update_self _ q8 (Obj.isFreed_of_fields (Obj.data_mapFields q9 _)), Obj.data_mapFields q9 _, by simp [hlt]⟩
    ⟨fun b o q n => ⟨o.slots, (off b (noF b o q n)).trans q⟩, fun b o q => ?_⟩)
  · rintro rfl; rw [q6] at q; cases q
  · by_cases z : b = T
    · subst z; exact ⟨_, Heap.get?_update_self _ q8 (Obj.isFreed_of_fields (Obj.data_mapFields q9 _))⟩
    · exact ⟨o, (off b z).trans q⟩
theorem fly_entry {head : Value} {had : Bool} {oe : Obj} {ws : Array Value} (hA : A.frames = some (env :: outer)) (fr : s.heap.FunFrames B (env :: outer)) (hL : env.frame = some L) (q1 : s.heap.get? e = some oe) (st : B.StaysIn s.heap) (nw : B.get? e = none) (q4 : oe.data = .fields ws) (hlt : 1 < ws.size)
    (k : ∀ h', Fly B (env :: outer) e oe.cls oe.dict (rawInt L) h' → Gn s.heap h' → Q () { s with heap := h' }) :
    wpAny M A (do let fo ← frameOf env; let pl ← entryPlaceOf L had; let t ← EntryCells.newEntry head fo .none (rawInt L) .none pl; setField (.ref e) 1 t) Q E s := by
  have hnf : e ∉ (env :: outer).filterMap (·.frame) := fun z => by
    obtain ⟨_, o, ho, n⟩ := fr.mem z
    rw [q1] at ho; cases ho; exact n ws q4
  refine wpAny_bind (wpAny_frameOf_fun hA fr hL fun h1 so => wpAny_bind (wpAny_entryPlaceOf fun pl hpl => ?_))
  obtain ⟨z1, z2, z3⟩ := so
  unfold EntryCells.newEntry newFields
  refine wpAny_bind (wpAny_newObj_type ?_ (hpl.sizeOk5 _ _ _ _ _))
  have e1 : h1.get? e = some oe := by rw [z2 e hnf]; exact q1
  have st1 : B.StaysIn h1 := fun b o q => by
    rw [z2 b fun z => by rw [(fr.mem z).1] at q; cases q]
    exact st b o q
  generalize hT : ({ cls := .type "traceback", dict := none, data := .fields ([head, .ref L, .none, rawInt L, .none] ++ (if pl.isEmpty then List.replicate 6 Value.none else pl)).toArray } : Obj) = oT
  have e2 : (h1.push oT).get? e = some oe := Heap.get?_push_of_some _ e1
  have dT : oT.data = .fields ([head, .ref L, .none, rawInt L, .none] ++ (if pl.isEmpty then List.replicate 6 Value.none else pl)).toArray := by rw [← hT]
  have ne : h1.objs.size ≠ e := Nat.ne_of_gt (Heap.lt_size e1)
  refine wpAny_setField e2 q4 hlt (k _ ?_ ?_)
  · have off : ∀ b o, b ≠ e → h1.get? b = some o → ((h1.push oT).update e (Obj.mapFields (·.setIfInBounds 1 (Value.ref h1.objs.size)))).get? b = some o := fun b o n q => by
      rw [Heap.get?_update_other _ _ (Ne.symm n)]
      exact Heap.get?_push_of_some _ q
    have noF : ∀ b o, h1.get? b = some o → (∀ vs, o.data ≠ .fields vs) → b ≠ e := by
      rintro b o q n rfl
      rw [e1] at q; cases q; exact n ws q4
    refine ⟨fun b o q => off b o ?_ (st1 b o q), nw, ?_, _, _, h1.objs.size, oT, _, Heap.get?_update_self _ e2 (Obj.isFreed_of_fields (Obj.data_mapFields q4 _)), mapF_cls _ _, mapF_dict _ _, Obj.data_mapFields q4 _, by simp [hlt], ?_, ne, ?_, dT, ?_⟩
    · rintro rfl; rw [nw] at q; cases q
    · exact fr.of_keeps fun b o q n => by
        obtain ⟨sl, q'⟩ := z3 b o q
        exact ⟨_, off b _ (noF b _ q' n) q', rfl⟩
    · cases q : B.get? h1.objs.size with
      | none => rfl
      | some o => exact absurd (Heap.lt_size (st1 _ _ q)) (Nat.lt_irrefl _)
    · rw [Heap.get?_update_other _ _ (Ne.symm ne)]
      rw [← hT]
      exact Heap.get?_push_size h1 rfl
    · first | (simp; done) | (rcases hpl with rfl | ⟨_, _, _, _, _, _, _, rfl⟩ <;> simp)
  · refine ⟨fun b o q n => ?_, fun b o q => ?_⟩
    · obtain ⟨sl, q'⟩ := z3 b o q
      refine ⟨sl, ?_⟩
      rw [Heap.get?_update_other _ _ ?_]
      · exact Heap.get?_push_of_some _ q'
      · rintro rfl
        rw [q1] at q; cases q; exact n ws q4
    · obtain ⟨sl, q'⟩ := z3 b o q
      by_cases z : b = e
      · subst z; exact ⟨_, Heap.get?_update_self _ e2 (Obj.isFreed_of_fields (Obj.data_mapFields q4 _))⟩
      · exact ⟨_, by rw [Heap.get?_update_other _ _ (Ne.symm z)]; exact Heap.get?_push_of_some _ q'⟩
theorem fly_first {oe : Obj} {ws : Array Value} (hA : A.frames = some (env :: outer)) (fr : s.heap.FunFrames B (env :: outer)) (hL : env.frame = some L) (q1 : s.heap.get? e = some oe) (st : B.StaysIn s.heap) (nw : B.get? e = none) (q4 : oe.data = .fields ws) (q5 : ws[1]? = some .none)
    (k : ∀ h', Fly B (env :: outer) e oe.cls oe.dict (rawInt L) h' → Gn s.heap h' → Q () { s with heap := h' }) : wpAny M A (noteFrame (.ref e) env) Q E s := by
  unfold noteFrame
  simp only [hL]
  refine wpAny_bind (wpAny_field q1 q4 q5 ?_)
  rw [if_neg (by decide)]
  exact fly_entry hA fr hL q1 st nw q4 (Array.getElem?_eq_some_iff.mp q5).1 k
theorem fly_note (hA : A.frames = some (env :: outer)) (hL : env.frame = some L) (x : Fly B (env :: outer) e C dc .none s.heap)
    (k : ∀ h', Fly B (env :: outer) e C dc (rawInt L) h' → Gn s.heap h' → Q () { s with heap := h' }) : wpAny M A (noteFrame (.ref e) env) Q E s := by
  obtain ⟨st, nw, fr, oe, ws, T, oT, ts, q1, q2, q3, q4, q5, q6, q7, q8, q9, q10⟩ := x
  have off : ∀ b, b ≠ T → (s.heap.update T (Obj.mapFields (·.setIfInBounds 3 Value.none))).get? b = s.heap.get? b := fun b z => Heap.get?_update_other _ _ (Ne.symm z)
  have noF : ∀ b o, s.heap.get? b = some o → (∀ vs, o.data ≠ .fields vs) → b ≠ T := by
    rintro b o q n rfl
    rw [q8] at q; cases q; exact n ts q9
  unfold noteFrame
  simp only [hL]
  refine wpAny_bind (wpAny_field q1 q4 q5 ?_)
  rw [if_pos (by simp : (Value.ref T != Value.none) = true)]
  refine wpAny_bind (wpAny_field q8 q9 q10 ?_)
  rw [if_neg (by simp [rawInt] : ¬ ((Value.none == rawInt L) = true))]
  refine wpAny_bind (wpAny_setField q8 q9 (Array.getElem?_eq_some_iff.mp q10).1 ?_)
  refine fly_entry (B := B) (oe := oe) hA (fr.of_keeps fun b o q n => ⟨o, (off b (noF b o q n)).trans q, rfl⟩) hL ((off e (Ne.symm q7)).trans q1) (fun b o q => (off b ?_).trans (st b o q)) nw q4 (Array.getElem?_eq_some_iff.mp q5).1 fun h' y u => ?_
  · rintro rfl; rw [q6] at q; cases q
  · subst q2 q3
    refine k h' y ⟨fun b o q n => u.up b o ((off b (noF b o q n)).trans q) n, fun b o q => ?_⟩
    by_cases z : b = T
    · subst z; exact u.there _ _ (Heap.get?_update_self _ q8 (Obj.isFreed_of_fields (Obj.data_mapFields q9 _)))
    · exact u.there b o ((off b z).trans q)
end
end L2
namespace L2
open PySem PySem.Spec PyProof.Rows
theorem obj_at {P : Program} {w : World} {H : Hp} {h : Heap} {a : Addr} {o : HO} (x : ObjOk P w H h a o) : ∃ u, h.get? a = some u := by
  cases o with
  | lst xs => obtain ⟨_, _, _, _, e⟩ := x; exact ⟨_, e⟩
  | tup xs => obtain ⟨_, _, _, ob, e, _⟩ := x; exact ⟨_, e⟩
  | dK kvs => obtain ⟨_, _, _, _, o, _, _, e, _⟩ := x; exact ⟨_, e⟩
  | dT kvs => obtain ⟨_, _, _, _, o, _, _, e, _⟩ := x; exact ⟨_, e⟩
  | set S n => obtain ⟨o, _, _, _, e, _⟩ := x; exact ⟨_, e⟩
  | ins C dx fs => obtain ⟨_, _, _, e, _⟩ := x; exact ⟨_, e⟩
  | own y => exact x
  | xd fs => obtain ⟨_, ⟨_, _, _, e, _⟩, _⟩ := x; exact ⟨_, e⟩
  | rng lo hi => obtain ⟨_, _, _, e⟩ := x; exact ⟨_, e⟩
  | frz ob u => obtain ⟨e, _⟩ := x; exact ⟨_, e⟩
  | tbl ps => exact ⟨_, (show h.get? a = some _ from x)⟩
  | met f y => exact ⟨_, (show h.get? a = some _ from x)⟩
  | ext φ => obtain ⟨_, e, _⟩ := x; exact e
noncomputable def Arr (B : Heap) (l : List Env) (e : Addr) (C : Value) (dc : Option Addr) (h : Heap) : Prop :=
  (B.StaysIn h ∧ B.get? e = none ∧ h.FunFrames B l ∧ ∃ oe ws, h.get? e = some oe ∧ oe.cls = C ∧ oe.dict = dc ∧ oe.data = .fields ws ∧ ws[1]? = some .none) ∨ Fly B l e C dc .none h
theorem Arr.stays {B : Heap} {l : List Env} {e : Addr} {C : Value} {dc : Option Addr} {h : Heap} (x : Arr B l e C dc h) : B.StaysIn h := x.elim (·.1) (·.stays)
theorem Arr.new {B : Heap} {l : List Env} {e : Addr} {C : Value} {dc : Option Addr} {h : Heap} (x : Arr B l e C dc h) : B.get? e = none := x.elim (·.2.1) (·.new)
theorem Arr.fr {B : Heap} {l : List Env} {e : Addr} {C : Value} {dc : Option Addr} {h : Heap} (x : Arr B l e C dc h) : h.FunFrames B l := x.elim (·.2.2.1) (·.fr)
section
variable {M : Model} {A : Around} {E : Value → Shared → Prop} {s : Shared} {B : Heap} {env : Env} {outer : List Env} {e L : Addr} {C : Value} {dc : Option Addr} {Q : Unit → Shared → Prop}
theorem arr_note (hA : A.frames = some (env :: outer)) (hL : env.frame = some L) (x : Arr B (env :: outer) e C dc s.heap)
    (k : ∀ h', Fly B (env :: outer) e C dc (rawInt L) h' → Gn s.heap h' → Q () { s with heap := h' }) : wpAny M A (noteFrame (.ref e) env) Q E s := by
  rcases x with ⟨st, nw, fr, oe, ws, q1, rfl, rfl, q4, q5⟩ | x
  · exact fly_first hA fr hL q1 st nw q4 q5 k
  · exact fly_note hA hL x k
theorem arr_leave (hA : A.frames = some (env :: outer)) (hL : env.frame = some L) (x : Arr B (env :: outer) e C dc s.heap)
    (k : ∀ h', Fly B outer e C dc .none h' → Gn s.heap h' → Q () { s with heap := h' }) : wpAny M A (leaving env (.ref e)) Q E s := by
  unfold leaving
  exact wpAny_bind (arr_note hA hL x fun h1 x1 u1 => fly_set x1 fun h2 x2 u2 => k h2 x2.pop (u1.trans u2))
end
structure Cov (B : Heap) (fs : List Addr) (H₀ : Hp) (h₀ : Heap) (H' : Hp) : Prop where
  trk : ∀ b o, H' b = some o → ∃ u, B.get? b = some u
  old : ∀ b o, h₀.get? b = some o → H₀ b = none → b ∉ fs → B.get? b = some o
noncomputable def CXE (P : Program) (w : World) : CXT := fun outer H s E e s' => ∃ (H' : Hp) (B : Heap) (a : Addr) (C : Value) (dc : Option Addr), e = .ref a ∧ s'.os = s.os ∧ AllBare s'.gens ∧ Un (frs outer) [] H H' s.heap s'.heap ∧ HOk P w H' s'.heap ∧ Fly B outer a C dc .none s'.heap ∧ Cov B (frs outer) H s.heap H' ∧ E C dc H'
noncomputable def XeB (X : Cx) (E : XK) (e : Value) (s' : Shared) : Prop := ∃ (σ : St) (H' : Hp) (B : Heap) (a : Addr) (C : Value) (dc : Option Addr), e = .ref a ∧ Inv X [] σ H' s' ∧ Arr B X.stack a C dc s'.heap ∧ Cov B X.fs X.H₀ X.s₀.heap H' ∧ (∀ p ∈ X.pn, B.get? p.1 = some p.2) ∧ E C dc H'
noncomputable def Flows (X : Cx) (E : XK) : Prop := ∀ e s', XeB X E e s' → X.xe e s'
structure Plain (X : Cx) : Prop where
  ex : X.ex = []
  stk : X.stack = X.env :: X.outer ∧ X.env.frame = some X.env.locals
theorem HOk.flew {P : Program} {w : World} {H' : Hp} {B h h' : Heap} (x : HOk P w H' h) (tr : ∀ b o, H' b = some o → ∃ u, B.get? b = some u) (st : B.StaysIn h) (st' : B.StaysIn h') : HOk P w H' h' := fun a o e =>
  (x a o e).stay (fun b u hb q => by
    obtain ⟨u', q'⟩ : ∃ u, B.get? b = some u := by
      rcases hb with rfl | hb
      · exact tr _ _ e
      · exact tr _ _ hb
    have := st _ _ q'
    rw [q] at this; cases this
    exact st' _ _ q') (fun _ q => q) fun _ _ q => q
theorem Inv.drop {X : Cx} {pins : List (Addr × Obj)} {σ : St} {H : Hp} {s : Shared} (I : Inv X pins σ H s) : Inv X [] σ H s :=
  ⟨I.ok, I.os, I.bare, I.base, I.loc, I.cell, I.free, I.freeC, fun p hp => I.pin p (by simp only [List.append_nil] at hp; exact List.mem_append_left _ hp), I.hok, I.len⟩
theorem un_flew {fs : List Addr} {H₀ H' : Hp} {B h₀ h h' : Heap} (u : Un fs [] H₀ H' h₀ h) (c : Cov B fs H₀ h₀ H') (st' : B.StaysIn h') (g : Gn h h') (nf : ∀ b ∈ fs, ∀ o, h.get? b = some o → ∀ vs, o.data ≠ .fields vs) : Un fs [] H₀ H' h₀ h' :=
  ⟨fun b o e n hb _ => st' b o (c.old b o e n hb), fun b o e n hb hx => by
    obtain ⟨sl, q⟩ := u.slot b o e n hb hx
    obtain ⟨sl', q'⟩ := g.up b _ q (nf b hb _ q)
    exact ⟨sl', q'⟩, u.free, fun b o e hx => by
    obtain ⟨o', q⟩ := u.there b o e hx
    exact g.there b o' q, u.tups, u.frzs, u.tbls⟩
theorem Inv.flew {X : Cx} {σ : St} {H' : Hp} {s' : Shared} {B h' : Heap} {t' : Nat} (I : Inv X [] σ H' s') (p : Plain X) (c : Cov B X.fs X.H₀ X.s₀.heap H') (pn : ∀ p ∈ X.pn, B.get? p.1 = some p.2) (st : B.StaysIn s'.heap) (fr : s'.heap.FunFrames B X.stack) (st' : B.StaysIn h') (g : Gn s'.heap h') : Inv X [] σ H' { s' with heap := h', toks := t' } := by
  have cellK : ∀ {c' : Addr} {v : Option Value}, s'.heap.IsCell c' v → h'.IsCell c' v := fun {c' v} ⟨o, ho, hd⟩ => by
    obtain ⟨sl, q⟩ := g.up c' o ho fun vs z => by rw [hd] at z; cases z
    exact ⟨_, q, hd⟩
  refine ⟨I.ok, I.os, I.bare, ?_, ?_, fun x c' e => let ⟨v, q⟩ := I.cell x c' e; ⟨v, cellK q⟩, I.free, I.freeC, fun q hq => ?_, I.hok.flew c.trk st st', I.len⟩
  · have u := I.base
    rw [p.ex] at u ⊢
    refine un_flew u c st' g fun b hb o q vs z => ?_
    have : b ∈ X.stack.filterMap (·.frame) := by
      rw [p.stk.1, List.filterMap_cons, p.stk.2]
      exact List.mem_cons_of_mem _ hb
    obtain ⟨_, o', q', n⟩ := fr.mem this
    rw [q] at q'; cases q'; exact n vs z
  · obtain ⟨m, hn, k⟩ := I.loc
    refine ⟨m, g.up.ns hn, fun i x v a b c => ?_⟩
    obtain ⟨u, r, l⟩ := k i x v a b c
    refine ⟨u, r, l.imp (fun z => z) fun ⟨z, c', e, q⟩ => ⟨z, c', e, cellK q⟩⟩
  · have := I.pin q hq
    rw [List.append_nil] at hq
    exact ⟨st' _ _ (pn q hq), this.2⟩
section
variable {P : Program} {w : World} {K : PySem.W.Frag} {mg : Str → Option Value} {base : Heap}
theorem flows_def {N : List Str} {qual : Str} {scope : Scope} {f : Addr} {cd : Value} {A : Around} {outer : List Env} {s : Shared} {H : Hp} {E : XK} : Flows (cxOf (CXE P w) P w K mg base N qual scope f cd A outer s H E) E := by
  rintro e s' ⟨σ, H', B, a, C, dc, rfl, I, ar, c, _, q⟩
  have fr := ar.fr
  have hA : (cxOf (CXE P w) P w K mg base N qual scope f cd A outer s H E).A.frames = some (envOfC qual scope s.heap.objs.size f cd :: outer) := I.ok.frames
  refine arr_leave hA rfl ar fun h' x g => ?_
  refine ⟨H', B, a, C, dc, rfl, I.os, I.bare, un_flew (show Un (frs outer) [] H H' s.heap s'.heap from I.base) c x.stays g fun b hb o q vs z => ?_, I.hok.flew c.trk ar.stays x.stays, x, c, q⟩
  have : b ∈ (envOfC qual scope s.heap.objs.size f cd :: outer).filterMap (·.frame) := List.mem_cons_of_mem _ hb
  obtain ⟨_, o', q', n⟩ := (show s'.heap.FunFrames B (envOfC qual scope s.heap.objs.size f cd :: outer) from fr).mem this
  rw [q] at q'; cases q'; exact n vs z
end
theorem pass_flows {X : Cx} {E : XK} (p : Plain X) (fl : Flows X E) : Passes (CXE X.prog X.w) X E := by
  rintro pins σ H s e s' I ⟨H', B, a, C, dc, rfl, os, bare, un, hok, x, c, q⟩
  refine fl _ _ ⟨σ, H', B, a, C, dc, rfl, (I.call' os un hok bare fun b z => absurd z (by simp)).drop, .inr x, ⟨c.trk, fun b o e n hb => ?_⟩, fun p' hp => ?_, q⟩
  rotate_left
  · obtain ⟨q1, q2, q3, q4, q5⟩ := I.pin p' (List.mem_append_left _ hp)
    refine c.old _ _ q1 q2 fun z => ?_
    rcases List.mem_cons.mp (I.stkSub _ z) with z | z
    · exact q3 z
    · exact q4 z
  have hx : b ∉ X.ex := by rw [p.ex]; simp
  refine c.old b o (I.base.keep b o e n hb hx) (I.base.free b o e n hx) fun z => ?_
  rcases List.mem_cons.mp (I.stkSub b z) with rfl | z
  · exact absurd (Heap.lt_size e) (Nat.not_lt_of_le I.ok.above)
  · exact hb z
theorem flows_new {X : Cx} {E : XK} {pins : List (Addr × Obj)} {σ : St} {H : Hp} {s : Shared} {a : Addr} {h' : Heap} {C : Value} {dc : Option Addr} {oe : Obj} {ws : Array Value} {t' : Nat} (p : Plain X) (fl : Flows X E) (I : Inv X pins σ H s) (k : ∀ b o, s.heap.get? b = some o → h'.get? b = some o)
    (nw : s.heap.get? a = none) (q1 : h'.get? a = some oe) (q2 : oe.cls = C) (q3 : oe.dict = dc) (q4 : oe.data = .fields ws) (q5 : ws[1]? = some .none) (q : E C dc H) : X.xe (.ref a) { s with heap := h', toks := t' } := by
  have fr := I.stack
  have nfr : ∀ b, b ∈ frs X.stack → H b = none := I.stkFree
  refine fl _ _ ⟨σ, H, PySem.W.hideAll s.heap (frs X.stack), a, C, dc, rfl, (I.kept k).drop, .inl ⟨fun b o z => k b o (PySem.W.of_hideAll _ z), ?_, ?_, oe, ws, q1, q2, q3, q4, q5⟩, ⟨fun b o z => ?_, fun b o e n hb => ?_⟩, fun p' hp => ?_, q⟩
  rotate_right
  · obtain ⟨q1, q2, q3, q4, q5⟩ := I.pin p' (List.mem_append_left _ hp)
    refine PySem.W.hideAll_get _ q1 fun z => ?_
    rcases List.mem_cons.mp (I.stkSub _ z) with z | z
    · exact q3 z
    · exact q4 z
  · cases z : (PySem.W.hideAll s.heap (frs X.stack)).get? a with
    | none => rfl
    | some o => have := PySem.W.of_hideAll _ z; rw [nw] at this; cases this
  · exact (PySem.W.funFrames_hide fr fun env he b hb => List.mem_filterMap.mpr ⟨env, he, hb⟩).of_keeps fun b o z _ => ⟨o, k b o z, rfl⟩
  · obtain ⟨u, hu⟩ := obj_at (I.hok b o z)
    exact ⟨u, PySem.W.hideAll_get _ hu fun hm => by rw [nfr b hm] at z; cases z⟩
  · have hx : b ∉ X.ex := by rw [p.ex]; simp
    refine PySem.W.hideAll_get _ (I.base.keep b o e n hb hx) fun z => ?_
    rcases List.mem_cons.mp (I.stkSub b z) with rfl | z
    · exact absurd (Heap.lt_size e) (Nat.not_lt_of_le I.ok.above)
    · exact hb z
noncomputable abbrev bmV : List Value := [.type "ValueError", .type "Exception", .type "BaseException", .type "object"]
theorem cls_obj {K : PySem.W.Frag} {h : Heap} {C : Addr} {bmB : List Value} {newId : String} (X : K.In h) (q : PySem.W.excIn K C bmB newId = true) :
    ∃ bm N nm q' bs hdct sn sub ab col dd k0 k1 k2 k3 k5 mN, h.get? C = some (excClassObj nm q' C N bs bm hdct sn sub ab col dd k0 k1 k2 k3 k5 newId) ∧ h.Ns N mN ∧ mN "__init__" = none ∧ OwnTail h bmB bm := by
  unfold PySem.W.excIn at q
  split at q
  · rename_i dd cd sl ho
    split at q
    · rename_i C' bm k0 k1 k2 k3 n k5 hm hs
      simp only [Bool.and_eq_true, beq_iff_eq, Bool.not_eq_true'] at q
      obtain ⟨⟨⟨⟨⟨rfl, rfl⟩, hdel⟩, ht⟩, hok⟩, hni⟩ := q
      obtain ⟨nm, bs, mro, ns, qn, hd, sn, sub, ab, col, del⟩ := cd
      dsimp only at hm hdel hok hni
      subst hm hdel
      obtain rfl : sl = #[k0, k1, k2, k3, some (.builtin n), k5] := by
        obtain ⟨l⟩ := sl
        simp only at hs
        rw [hs]
      exact ⟨bm, ns, nm, qn, bs, hd, sn, sub, ab, col, dd, k0, k1, k2, k3, k5, _, X _ _ ho, .of_isNs (PySem.W.isNs_of_in X hok), PySem.W.nsMap_none_of_in X hok hni, PySem.W.tail_of_in X ht⟩
    · cases q
  · cases q
theorem raise0 {X : Cx} {E : XK} {pins : List (Addr × Obj)} {σ : St} {H : Hp} {s : Shared} {x : Str} {C : Addr} {np cpos pos : Pos} {Q : Flow → Shared → Prop} (p : Plain X) (fl : Flows X E) (hc : X.calm = true) (I : Inv X pins σ H s) (hg : Gl X x) (hm : X.mg x = some (.ref C)) (hC : PySem.W.excIn X.K C bmV "ValueError.__new__" = true)
    (q : E (.ref C) none H) (hdb : (x == ("__debug__" : Str)) = false := by decide) : wpAny (model X.prog X.w) X.A (exec (.Raise (some (.Call (.Name x np) [] [] cpos)) none pos) X.env) Q X.xe s := by
  obtain ⟨tl, N, nm, q', bs, hdct, sn, sub, ab, col, dd, k0, k1, k2, k3, k5, mN, hC', hN, hni, T⟩ := cls_obj I.kIn hC
  refine wpAny_Raise_call_subT (C := C) (nm := nm) (q := q') (N := N) (bs := bs) (bm := tl) (hdct := hdct) (sn := sn) (sub := sub) (ab := ab) (col := col) (dd := dd) (k0 := k0) (k1 := k1) (k2 := k2) (k3 := k3) (k5 := k5) PySem.F.excBase_ValueError (mN := mN) (T.hasType PySem.F.excBase_ValueError.hasBase) (I.ok.hd hc) rfl hni (ld_glob I hg hm ⟨rfl, ?_⟩ hdb)
  refine evalArgs_empty ⟨rfl, Nat.zero_le _, hC', hN, T, fun h' e me => ?_⟩
  obtain ⟨t, he, _, _⟩ := me.there
  exact flows_new p fl I me.keeps me.new he rfl rfl rfl rfl q
end L2
namespace L2.FE
open PySem PySem.Spec PyProof.Rows
noncomputable def εX (g : GG) (E : XK) : EE := fun _ H' x => ∀ (C : Addr) (dc : Option Addr), g x.cls = some C → XFs H' dc x.fs → E (.ref C) dc H'
noncomputable abbrev spE (K : PySem.W.Frag) (g : GG) (np : Nat) (m : MF) : Sp := spG K g (εX g) np m
noncomputable def HasE (P : Program) (w : World) (K : PySem.W.Frag) (mg : Str → Option Value) (base : Heap) (g : GG) (x : Str) (k : Nat) (ps : List Str) (m : MF) : Prop :=
  ∃ f fd, FnOk P w K mg base (CXE P w) k f fd ps (spE K g ps.length m) ∧ PySem.W.keepIn K (.ref f) = true ∧ Binds K fd ps [] ∧ mg x = some (.ref f)
noncomputable def cRaise (x : Str) : MS := fun _ h => .err ⟨x, []⟩ h
noncomputable def noR {β : Type} : R β → R β
  | .ok b h => .ok b h
  | _ => .bad
@[simp] theorem noR_ok {β : Type} (b : β) (h : Hh) : noR (.ok b h) = .ok b h := rfl
noncomputable def up {β : Type} (m : En → Hh → R β) : En → Hh → R β := fun env h => noR (m env h)
theorem noR_wq {K : PySem.W.Frag} {g : GG} {ε : EE} {α : List Addr} {H : Hp} {β : Type} {r : R β} {k : β → Hh → Prop} (w : WQ K g ε α H (noR r) k) : WQ K g E00 α H r k := by
  cases r with
  | ok b h => exact w
  | err x h => exact w.elim
  | bad => exact w.elim
section
variable {P : Program} {w : World} {K : PySem.W.Frag} {mg : Str → Option Value} {base : Heap} {g : GG}
theorem fn_mE {x qual : Str} {st : Stmt} {f : Addr} {fd : FuncData} {N ps : List Str} {k : Nat} {mb : MS} (F : Fun K x qual st f fd) (S : FnScope N ps (defScope st))
    (hb : ∀ (cdv : Value) (A : Around) (outer : List Env) (s : Shared) (H : Hp) (E : XK), Room k (A.deeper (envOfC qual (defScope st) s.heap.objs.size f cdv)) →
      Flows (cxOf (CXE P w) P w K mg base N qual (defScope st) f cdv A outer s H E) E → Plain (cxOf (CXE P w) P w K mg base N qual (defScope st) f cdv A outer s H E) →
      PassesOwn (model P w) (A.deeper (envOfC qual (defScope st) s.heap.objs.size f cdv)) (envOfC qual (defScope st) s.heap.objs.size f cdv) (cxOf (CXE P w) P w K mg base N qual (defScope st) f cdv A outer s H E).xe →
      PSs (cxOf (CXE P w) P w K mg base N qual (defScope st) f cdv A outer s H E) (defBody st) (tMS K g (εX g E) mb)) : FnOk P w K mg base (CXE P w) (k + 1) f fd ps (spE K g ps.length (cFun N.length mb)) := by
  obtain ⟨oc, od, kV, doc, pm, an, cdv, ct, osl, rfl, lk, hcd⟩ := F.ex
  refine fn_of lk hcd S (fun vs H Q E h => h.1) fun A outer s H vs Q E hr hsp => ⟨_, hb cdv A outer s H E hr flows_def ⟨rfl, rfl, rfl⟩ PassesOwn.leaving, ?_⟩
  obtain ⟨hl, α, ds, h, rs, hh, w⟩ := hsp
  refine tMS.use ⟨hh, start_rel rs⟩ w.bind fun fl h' H' α' e r kk => ?_
  cases fl with
  | nx e' => exact fun σ' s' => (show Post K g α H Q .non h' from kk) _ H' α' e r .non
  | bk e' => exact kk.elim
  | ct e' => exact kk.elim
  | rt d => exact fun v rv => (show Post K g α H Q d h' from kk) _ H' α' e r rv
end
section
variable {X : Cx} {g : GG} {E : XK} {ε : EE}
theorem s_raise {x : Str} {C : Addr} {np cpos pos : Pos} (fl : Flows X E) (pl : Plain X) (hc : X.calm = true) (hg : Gl X x) (hm : X.mg x = some (.ref C)) (hgx : g x = some C) (hC : PySem.W.excIn X.K C bmV "ValueError.__new__" = true) (hdb : (x == ("__debug__" : Str)) = false := by decide) :
    PS X (.Raise (some (.Call (.Name x np) [] [] cpos)) none pos) (tMS X.K g (εX g E) (cRaise x)) := fun pins s σ H D I ⟨α, env, h, sr, w⟩ =>
  raise0 pl fl hc I hg hm hC (w α H Ext.refl sr.heap C none hgx (.inl ⟨rfl, rfl⟩)) hdb
theorem se_callE {k : Nat} {f : Addr} {fd : FuncData} {ps : List Str} {m : MF} {np : Nat} {x : Str} {p pos : Pos} {e : Expr} {es : List Expr} {mr : MA} (fl : Flows X E) (pl : Plain X) (F : FnOk X.prog X.w X.K X.mg X.base (CXE X.prog X.w) k f fd ps (spE X.K g np m)) (hr : Room k X.A) (hg : Gl X x) (hm : X.mg x = some (.ref f)) (hk : PySem.W.keepIn X.K (.ref f) = true) (hb : Binds X.K fd ps [])
    (ha : PA X (e :: es) (tMA X.K g (εX g E) mr)) (hlen : ∀ env h ds h', mr env h = .ok ds h' → ds.length = np) (hdb : (x == ("__debug__" : Str)) = false := by decide) (he : starEach (e :: es) X.env = (false, eval e X.env) :: starEach es X.env := by rfl) (hpl : (backTo pos (starEach es X.env)).any (·.1) = false := by rfl) :
    PE X (.Call (.Name x p) (e :: es) [] pos) (tM X.K g (εX g E) (cCall m mr)) :=
  PE.imp (pe_call F hr hg hm hk hb .nil (pass_flows pl fl) ha hdb he hpl) fun σ H Q ⟨α, env, h, s, w⟩ => ⟨α, env, h, s, w.bind.mono fun d1 h1 eq w1 v1 H1 α1 e1 hr1 r1 => by
    show spE X.K g np m (v1 ++ []) H1 Q E
    rw [List.append_nil]
    refine ⟨?_, α1, d1, h1, r1, hr1, w1.post e1⟩
    rw [← r1.length]
    exact hlen env h d1 h1 eq⟩
theorem _root_.L2.PS.nox {e : Stmt} {t : TS} (h : PS X.nox e t) : PS X e t := fun pins s σ H D I hw =>
  wpAny_mono (h pins s σ H D (I.wish _) hw) (fun _ _ q => q.unwish) fun _ _ z => False.elim z
theorem se_up {e : Expr} {m : ME} (h : PE X.nox e (tM X.K g E00 m)) : PE X e (tM X.K g ε (up m)) := PE.imp h.nox fun σ H Q ⟨α, env, h, s, w⟩ => ⟨α, env, h, s, noR_wq w⟩
theorem st_up {e : Expr} {m : MT} (h : PT X.nox e (tMT X.K g E00 m)) : PT X e (tMT X.K g ε (up m)) := PT.imp h.nox fun σ H Q ⟨α, env, h, s, w⟩ => ⟨α, env, h, s, noR_wq w⟩
theorem s_up {e : Stmt} {m : MS} (h : PS X.nox e (tMS X.K g E00 m)) : PS X e (tMS X.K g ε (up m)) := PS.imp h.nox fun σ H Q ⟨α, env, h, s, w⟩ => ⟨α, env, h, s, noR_wq w⟩
end
end L2.FE
namespace L2
open PySem PySem.Spec PyProof.Rows
noncomputable abbrev unm (A : Around) : Around := { A with handled := none }
section
variable {X : Cx} {pins : List (Addr × Obj)} {σ : St} {H : Hp} {s : Shared}
noncomputable abbrev Cx.hand (X : Cx) (A : Around) (pn : List (Addr × Obj)) (E : Value → Shared → Prop) : Cx := { X with A := A, calm := false, pn := pn, xe := E }
theorem Inv.hand (I : Inv X pins σ H s) {A : Around} (hA : A.frames = X.A.frames) {pn pins' : List (Addr × Obj)} (hp : ∀ p ∈ pn ++ pins', p ∈ X.pn ++ pins) (E : Value → Shared → Prop) : Inv (X.hand A pn E) pins' σ H s :=
  ⟨⟨I.ok.mod, I.ok.kind, I.ok.glob, I.ok.blt, I.ok.above, I.ok.inj, I.ok.has, I.ok.cab, fun z => (nomatch z), hA.trans I.ok.frames, I.ok.stk, I.ok.exf, I.ok.bs, I.ok.bsz, I.ok.noex, I.ok.exfs, I.ok.funs, I.ok.frf⟩, I.os, I.bare, I.base, I.loc, I.cell, I.free, I.freeC, fun p h => I.pin p (hp p h), I.hok, I.len⟩
noncomputable abbrev Cx.wpn (X : Cx) (pn : List (Addr × Obj)) (E : Value → Shared → Prop) : Cx := { X with pn := pn, xe := E }
theorem Inv.wpn (I : Inv X pins σ H s) {pn pins' : List (Addr × Obj)} (hp : ∀ p ∈ pn ++ pins', p ∈ X.pn ++ pins) (E : Value → Shared → Prop) : Inv (X.wpn pn E) pins' σ H s :=
  ⟨⟨I.ok.mod, I.ok.kind, I.ok.glob, I.ok.blt, I.ok.above, I.ok.inj, I.ok.has, I.ok.cab, I.ok.hd, I.ok.frames, I.ok.stk, I.ok.exf, I.ok.bs, I.ok.bsz, I.ok.noex, I.ok.exfs, I.ok.funs, I.ok.frf⟩, I.os, I.bare, I.base, I.loc, I.cell, I.free, I.freeC, fun p h => I.pin p (hp p h), I.hok, I.len⟩
theorem Inv.back {A : Around} {pn pins' : List (Addr × Obj)} {E : Value → Shared → Prop} (J : Inv (X.hand A pn E) pins' σ H s) (ok : X.Ok) (hp : ∀ p ∈ X.pn ++ pins, p ∈ pn ++ pins') : Inv X pins σ H s :=
  ⟨ok, J.os, J.bare, J.base, J.loc, J.cell, J.free, J.freeC, fun p h => J.pin p (hp p h), J.hok, J.len⟩
theorem Inv.adopt {B : Heap} {a : Addr} {oe : Obj} {ws : Array Value} (I : Inv X [] σ H s) (p : Plain X) (c : Cov B X.fs X.H₀ X.s₀.heap H) (pn : ∀ p ∈ X.pn, B.get? p.1 = some p.2) (fr : s.heap.FunFrames B X.stack) (nw : B.get? a = none) (q1 : s.heap.get? a = some oe) (q4 : oe.data = .fields ws) :
    H a = none ∧ Inv X [] σ (upd H a (FE.AtO a oe)) s := by
  have hn : H a = none := by
    cases z : H a with
    | none => rfl
    | some o => obtain ⟨u, hu⟩ := c.trk a o z; rw [nw] at hu; cases hu
  have nfr : ∀ b ∈ X.env.locals :: X.fs, b ≠ a := by
    rintro b hb rfl
    have : b ∈ X.stack.filterMap (·.frame) := by
      rw [p.stk.1, List.filterMap_cons, p.stk.2]
      exact hb
    obtain ⟨_, o', q', n⟩ := fr.mem this
    rw [q1] at q'; cases q'; exact n ws q4
  refine ⟨hn, I.ok, I.os, I.bare, ?_, I.loc, I.cell, ?_, fun x c' e => ?_, fun q hq => ?_, fun b o e => ?_, I.len⟩
  · obtain ⟨u1, u2, u3, u4, u5, u6, u7⟩ := I.base
    refine ⟨u1, u2, fun b o e n hx => ?_, u4, fun b xs q => ?_, fun b o u q => ?_, fun b ps q => ?_⟩
    · rw [upd_ne ?_]; exact u3 b o e n hx
      rintro rfl
      by_cases hb : b ∈ X.fs
      · exact nfr b (List.mem_cons_of_mem _ hb) rfl
      · have := c.old b o e n hb
        rw [nw] at this; cases this
    · have := u5 b xs q
      rw [upd_ne (ne_of_none this hn)]; exact this
    · have := u6 b o u q
      rw [upd_ne (ne_of_none this hn)]; exact this
    · obtain ⟨more, this⟩ := u7 b ps q
      exact ⟨more, by rw [upd_ne (ne_of_none this hn)]; exact this⟩
  · rw [upd_ne (nfr _ List.mem_cons_self)]; exact I.free
  · rw [upd_ne ?_]; exact I.freeC x c' e
    rintro rfl
    obtain ⟨v, o, ho, hd⟩ := I.cell x c' e
    rw [q1] at ho; cases ho; rw [q4] at hd; cases hd
  · have z := I.pin q hq
    refine ⟨z.1, ?_, z.2.2⟩
    rw [upd_ne ?_]; exact z.2.1
    rintro e
    rw [List.append_nil] at hq
    have := pn q hq
    rw [e, nw] at this; cases this
  · by_cases hb : b = a
    · subst hb
      rw [upd_same] at e; cases e
      exact ⟨q1, q1, ⟨_, q1⟩, fun h1 h2 z k => k _ z⟩
    · rw [upd_ne hb] at e
      exact (I.hok b o e).stay (fun _ _ _ z => z) (fun c' z => by rw [upd_ne (ne_of_none z hn)]; exact z) fun c' xs z => by rw [upd_ne (ne_of_none z hn)]; exact z
theorem Inv.forget {i : Nat} {x : Str} {m m' : Str → Option Value} {h' : Heap} {t' : Nat} (I : Inv X pins σ H s) (hN : X.N.Nodup) (hi : X.N[i]? = some x) (hn : s.heap.Ns X.env.locals m) (hn' : h'.Ns X.env.locals m') (hm : ∀ y, y ≠ x → m' y = m y) (sb : Heap.SameBut X.env.locals s.heap h') : Inv X pins (σ.set i none) H { s with heap := h', toks := t' } := by
  have kp : ∀ b, b ≠ X.env.locals → h'.get? b = s.heap.get? b := fun b n => sb.2 b n
  have cellK : ∀ y c v, X.env.cells.lookup y = some c → s.heap.IsCell c v → h'.IsCell c v := fun y c v e ⟨o, ho, hd⟩ => ⟨o, by rw [kp c (I.cne y c e)]; exact ho, hd⟩
  refine ⟨I.ok, I.os, I.bare, ?_, ⟨m', hn', fun j y v a b c => ?_⟩, fun y c e => let ⟨v, q⟩ := I.cell y c e; ⟨v, cellK y c v e q⟩, I.free, I.freeC, fun q hq => ?_, fun b o e => ?_, by rw [List.length_set]; exact I.len⟩
  · obtain ⟨u1, u2, u3, u4, u5, u6, u7⟩ := I.base
    have ne : ∀ b o, X.s₀.heap.get? b = some o → b ≠ X.env.locals := fun b o e => Nat.ne_of_lt (Nat.lt_of_lt_of_le (Heap.lt_size e) I.ok.above)
    exact ⟨fun b o e n h1 h2 => by rw [kp b (ne b o e)]; exact u1 b o e n h1 h2, fun b o e n h1 h2 => by rw [kp b (ne b o e)]; exact u2 b o e n h1 h2, u3, fun b o e h2 => by rw [kp b (ne b o e)]; exact u4 b o e h2, u5, u6, u7⟩
  · rw [List.getElem?_set] at b
    by_cases hj : i = j
    · rw [if_pos hj] at b
      split at b <;> cases b
    · rw [if_neg hj] at b
      obtain ⟨m0, hn0, k⟩ := I.loc
      obtain ⟨u, r, l⟩ := k j y v a b c
      have hy : y ≠ x := by
        rintro rfl
        exact hj ((List.getElem?_inj (List.getElem?_eq_some_iff.mp hi).1 hN).mp (hi.trans a.symm))
      have e0 : m0 = m := by
        obtain ⟨o1, es1, ep1, a1, a2, a3, a4⟩ := hn0
        obtain ⟨o2, es2, ep2, b1, b2, b3, b4⟩ := hn
        rw [a1] at b1; cases b1
        rw [a2] at b2; cases b2
        funext y; rw [← a4, ← b4]
      subst e0
      refine ⟨u, r, l.imp (fun z => ⟨z.1, by rw [hm y hy]; exact z.2⟩) fun ⟨z, c', e, q⟩ => ⟨z, c', e, cellK y c' _ e q⟩⟩
  · have z := I.pin q hq
    exact ⟨by rw [kp _ z.2.2.1]; exact z.1, z.2⟩
  · exact (I.hok b o e).stay (fun c' u hc q => by
      rw [kp c' ?_]; exact q
      rintro rfl
      rcases hc with rfl | hc
      · rw [I.free] at e; cases e
      · rw [I.free] at hc; cases hc) (fun _ q => q) fun _ _ q => q
end
structure FnH (P : Program) (w : World) (K : PySem.W.Frag) (mg : Str → Option Value) (base : Heap) (k : Nat) (f : Addr) (fd : FuncData) (ps : List Str) (sp : Sp) : Prop where
  len : ∀ vs H Q E, sp vs H Q E → vs.length = ps.length
  run : ∀ (A : Around) (outer : List Env) (s : Shared) (H : Hp) (args : Args) (us : List Value) (vs : List V) (Q : VK) (E : XK), Room k (unm A) → Env0 P w K mg base A outer s H → BindsTo s fd args (ps.zip us) → Vals vs us → sp vs H Q E →
    codeAny (model P w) A (.call (.ref f) args) (CR CX0 outer P w H s Q E) s
theorem FnH.mono {P : Program} {w : World} {K : PySem.W.Frag} {mg : Str → Option Value} {base : Heap} {j k : Nat} {f : Addr} {fd : FuncData} {ps : List Str} {sp : Sp} (F : FnH P w K mg base j f fd ps sp) (h : j ≤ k) : FnH P w K mg base k f fd ps sp :=
  ⟨F.len, fun A outer s H args us vs Q E hr => F.run A outer s H args us vs Q E (hr.mono h)⟩
section
variable {P : Program} {w : World} {K : PySem.W.Frag} {mg : Str → Option Value} {base : Heap}
noncomputable abbrev cxH (P : Program) (w : World) (K : PySem.W.Frag) (mg : Str → Option Value) (base : Heap) (N : List Str) (qual : Str) (scope : Scope) (f : Addr) (cd : Value) (A : Around) (outer : List Env) (s : Shared) (H : Hp) (E : XK) : Cx :=
  (cxOf CX0 P w K mg base N qual scope f cd A outer s H E).hand (A.deeper (envOfC qual scope s.heap.objs.size f cd)) [] fun _ _ => False
theorem fnH_of {x qual : Str} {st : Stmt} {f : Addr} {fd : FuncData} {N ps : List Str} {k : Nat} {sp : Sp} (F : Fun K x qual st f fd) (S : FnScope N ps (defScope st)) (len : ∀ vs H Q E, sp vs H Q E → vs.length = ps.length)
    (hbody : ∀ (cdv : Value) (A : Around) (outer : List Env) (s : Shared) (H : Hp) (vs : List V) (Q : VK) (E : XK), Room k (unm (A.deeper (envOfC qual (defScope st) s.heap.objs.size f cdv))) → sp vs H Q E →
      ∃ t, PSs (cxH P w K mg base N qual (defScope st) f cdv A outer s H E) (defBody st) t ∧ t { nx := fun _ H' => Q .non H', rt := Q } (start N vs) H) : FnH P w K mg base (k + 1) f fd ps sp := by
  obtain ⟨oc, od, kV, doc, pm, an, cdv, ct, osl, rfl, lk, hcd⟩ := F.ex
  refine ⟨len, fun A outer s H args us vs Q E hr e0 hb r hsp => ?_⟩
  have hl := len _ _ _ _ hsp
  have KX : K.In s.heap := e0.mod.kin.keeps fun b o e => (e0.bs b o e).1
  have lim : s.heap.NoLimit := e0.mod.nolimit.keeps fun b o e => (e0.bs b o e).1
  have hkind : ∀ y ∈ ps.zip us, (defScope st).names.lookup y.1 = some .local ∨ ((defScope st).names.lookup y.1 = some .cell ∧ ((cellsFrom (s.heap.objs.size + 1) (defScope st).names []).lookup y.1).isSome = true) := fun ⟨n, v⟩ hy => by
    rcases S.par n (List.of_mem_zip hy).1 with q | q
    · exact .inl q
    · exact .inr ⟨q, PySem.W.cellsFrom_some _ _ _ (.inl q)⟩
  have hdp : A.depth < recursionLimit := Room.depth (A := unm A) hr
  refine codeAny_call_function hdp (KX _ _ lk) rfl S.co S.gen rfl (PySem.W.codeRec_of KX hcd) (hb _ _ _ _ ?_)
  refine wpAny_newFunctionEnv_cells S.kind hkind fun env he s1 x => ?_
  subst he
  refine ⟨lim.keeps x.toInCall.keep, codeAny_func ?_⟩
  obtain ⟨t, ht, hq⟩ := hbody cdv A outer s H vs Q E (hr.deeper _) hsp
  have I0 : Inv (cxOf CX0 P w K mg base N qual (defScope st) f cdv (unm A) outer s H E) [] (start N vs) H s1 := inv_start S rfl ⟨e0.frames, e0.mod, e0.bs, e0.bsz, e0.funs, e0.frf, e0.hok, e0.bare⟩ hl r x
  have I : Inv (cxH P w K mg base N qual (defScope st) f cdv A outer s H E) [] (start N vs) H s1 :=
    ⟨⟨I0.ok.mod, I0.ok.kind, I0.ok.glob, I0.ok.blt, I0.ok.above, I0.ok.inj, I0.ok.has, I0.ok.cab, fun z => (nomatch z), Around.frames_deeper e0.frames, I0.ok.stk, I0.ok.exf, I0.ok.bs, I0.ok.bsz, I0.ok.noex, I0.ok.exfs, I0.ok.funs, I0.ok.frf⟩, I0.os, I0.bare, I0.base, I0.loc, I0.cell, I0.free, I0.freeC, I0.pin, I0.hok, I0.len⟩
  refine wpAny_mono (ht [] s1 (start N vs) H _ I hq) (fun fl s' hs => ?_) fun e s' hs => hs.elim
  have fin : ∀ {σ' : St} {H' : Hp} {v : V} {u : Value}, Inv (cxH P w K mg base N qual (defScope st) f cdv A outer s H E) [] σ' H' s' → RelV v u → Q v H' → CE outer P w H s Q u s' :=
    fun {σ' H' v u} J rv q => ⟨v, H', J.os, J.bare, J.base, J.hok, rv, q⟩
  cases fl with
  | ret u =>
    obtain ⟨v, σ', H', J, rv, q⟩ := hs
    exact fin J rv q
  | next =>
    obtain ⟨σ', H', J, q⟩ := hs
    exact fin (v := V.non) (u := Value.none) J rfl q
  | brk =>
    obtain ⟨_, _, _, q⟩ := hs
    exact q.elim
  | cont =>
    obtain ⟨_, _, _, q⟩ := hs
    exact q.elim
end
section
variable {X : Cx} {k : Nat} {f : Addr} {fd : FuncData} {ps : List Str} {sp : Sp} {x : Str} {p pos : Pos} {e : Expr} {es : List Expr} {t : TA}
theorem pe_callH (F : FnH X.prog X.w X.K X.mg X.base k f fd ps sp) (hr : Room k (unm X.A)) (hg : Gl X x) (hm : X.mg x = some (.ref f)) (hk : PySem.W.keepIn X.K (.ref f) = true) (hb : Binds X.K fd ps [])
    (ha : PA X (e :: es) t) (hdb : (x == ("__debug__" : Str)) = false := by decide) (he : starEach (e :: es) X.env = (false, eval e X.env) :: starEach es X.env := by rfl) (hpl : (backTo pos (starEach es X.env)).any (·.1) = false := by rfl) :
    PE X (.Call (.Name x p) (e :: es) [] pos) (tCall sp [] E0 t) := by
  intro pins s σ H Q I h
  refine wpAny_Call_Name_kw (ld_glob I hg hm ?_ hdb)
  refine PySem.W.callWith_K (h₀ := X.base) I.ok.mod.kin hk (thn (ha pos pins s σ H _ I h) fun us s1 ⟨vs, H1, I1, r, q⟩ => ⟨I1.kIn, ?_⟩) he hpl
  replace q : sp vs H1 Q E0 := by simpa using q
  have hl : us.length = ps.length := by rw [← r.length]; exact F.len _ _ _ _ q
  have hbb := hb s1 us I1.kIn (by rw [List.append_nil]; exact hl)
  rw [List.append_nil] at hbb
  refine wpAny_call (codeAny_mono (F.run X.A X.stack s1 H1 ⟨us, []⟩ us vs Q E0 hr I1.env0 hbb r q) fun r s' hq => ?_)
  cases r with
  | error e => exact hq.elim
  | ok fl =>
    cases fl with
    | ret u => exact I1.after hq
    | next => exact hq.elim
    | brk => exact hq.elim
    | cont => exact hq.elim
end
end L2
namespace L2
open PySem PySem.Spec PyProof.Rows PySem.W
theorem plain_bga : plainId "BaseException.__getattribute__" = true := by decide +kernel
theorem kind_bga : builtinKind "BaseException.__getattribute__" = some .slot := by decide +kernel
theorem split_bga : splitId "BaseException.__getattribute__" = some ("BaseException", "__getattribute__") := by decide +kernel
theorem bind_bga (v : Value) : bindSpecial (.builtin "BaseException.__getattribute__") v = pure (.builtin "BaseException.__getattribute__", [v]) := F.excAttr_ValueError.ga.bind v
section
variable {prog : Program} {w : World} {A : Around} {E : Value → Shared → Prop} {s : Shared} {K : Frag} {x D : Addr} {ox : Obj} {odo : Option Obj} {name : Str}
theorem bga_run {g0 a0 : Value} {tk : Tok} {Q : Fin → Shared → Prop} (X : K.In s.heap) (I : InstAt s.heap x ox D odo) (hf : findObj K D odo name = some (.bind g0 a0)) (h : wpAny (model prog w) A (call g0 [a0, .ref x, .ref D]) (fun v s' => Q (.done (.ret v)) s') E s) :
    wpAny (model prog w) A (Builtin.«object.__getattribute__» ⟨[.ref x, .str name tk], []⟩) Q E s := by
  obtain ⟨hh, gg, d, t, os⟩ := s
  have L0 := I.type (M := model prog w)
  have L1 := looks_find (M := model prog w) X I hf
  unfold Builtin.«object.__getattribute__»
  refine wpAny_bind (wpAny_pure (wpAny_bind (wpAny_pure (wpAny_bind (L0.at (wpAny_bind (L1.at ?_)))))))
  exact wpAny_bind (wpAny_holding (wpAny_mono h (fun v s' z => wpAny_pure z) fun _ _ z => z))
theorem bga_call {g0 a0 : Value} {tk : Tok} {R : Result → Shared → Prop} (X : K.In s.heap) (I : InstAt s.heap x ox D odo) (hsub : mroIn K D (.type "BaseException") = some true) (hf : findObj K D odo name = some (.bind g0 a0))
    (h : wpAny (model prog w) A.in1 (call g0 [a0, .ref x, .ref D]) (fun v s' => R (.ok (.ret v)) s') (fun e s' => R (.error e) s') s) :
    codeAny (model prog w) A (.call (.builtin "BaseException.__getattribute__") ⟨[.ref x, .str name tk], []⟩) R s := by
  have L0 := I.type (M := model prog w)
  have L3 : Looks (model prog w) s.heap (isInstance (.ref x) (.type "BaseException")) true := L0.andThen (looks_mroIn X hsub)
  refine codeAny_call_builtin plain_bga F.entry_bexc_ga ?_
  refine check_slot (i := "BaseException.__getattribute__") kind_bga split_bga L3 (F.args_bexc_ga (.ref x) (.str name tk)) ?_
  exact bga_run X I hf h
theorem exc_attr {g0 a0 v0 : Value} {Q : Option Value → Shared → Prop} (X : K.In s.heap) (I : InstAt s.heap x ox D odo) (hga : findIn K (.ref D) "__getattribute__" = some (some (.builtin "BaseException.__getattribute__"))) (hhk : findIn K (.ref D) "__getattr__" = some none) (hsub : mroIn K D (.type "BaseException") = some true)
    (hf : findObj K D odo name = some (.bind g0 a0)) (hv : handedIn v0 = true)
    (h : ∀ (A : Around) (E : Value → Shared → Prop) (Q' : Value → Shared → Prop), Q' v0 { s with toks := s.toks + 1 } → wpAny (model prog w) A (call g0 [a0, .ref x, .ref D]) Q' E { s with toks := s.toks + 1 })
    (q : Q (some v0) { s with toks := s.toks + 1 }) : wpAny (model prog w) A (getAttr? (.ref x) name) Q E s := by
  obtain ⟨hh, gg, d, t, os⟩ := s
  have L0 := I.type (M := model prog w)
  have L1 := looks_findIn (M := model prog w) X hga
  have L2 := looks_findIn (M := model prog w) X hhk
  have L3 : Looks (model prog w) hh (isInstance (.ref x) (.type "BaseException")) true := L0.andThen (looks_mroIn X hsub)
  unfold getAttr? getAttrBy? getAttrBy
  refine wpAny_bind (wpAny_mkText (wpAny_bind (wpAny_attempt (wpAny_holding (wpAny_bind (L0.at (wpAny_bind (L1.at ?_))))))))
  dsimp only
  rw [if_neg (show ¬ ((onTheHeap (Value.ref D) && (Value.builtin "BaseException.__getattribute__" == Value.builtin "object.__getattribute__")) = true) from by rw [show (Value.builtin "BaseException.__getattribute__" == Value.builtin "object.__getattribute__") = false from by decide +kernel, Bool.and_false]; decide)]
  unfold getAttrByItsOwn hookBefore
  rw [if_pos (show onTheHeap (.ref D) = true from rfl)]
  refine wpAny_bind (L2.at (wpAny_bind (wpAny_attempt (wpAny_holding ?_))))
  unfold callGetattribute
  rw [if_neg (show ¬ ((false && _) = true) from by simp)]
  unfold boundAndCalled
  rw [bind_bga]
  refine wpAny_bind (wpAny_pure ?_)
  show wpAny (model prog w) A (call (.builtin "BaseException.__getattribute__") [.ref x, .str name t]) _ _ _
  refine wpAny_call (bga_call (s := ⟨hh, gg, d, t + 1, os⟩) X I hsub hf (h _ _ _ ?_))
  exact handed_on hv (wpAny_pure q)
end
theorem kitx_exc {K : Frag} {x D : Addr} {ox : Obj} {odo : Option Obj} (hga : findIn K (.ref D) "__getattribute__" = some (some (.builtin "BaseException.__getattribute__"))) (hhk : findIn K (.ref D) "__getattr__" = some none) (hsub : mroIn K D (.type "BaseException") = some true) (hdct : hasDictIn K D = true) (ha : findIn K (.ref D) "__class__" = some (some (.builtin "object.__class__")))
    (hn : specialIn K (.builtin "object.__class__") "__get__" = some (some (.builtin "getset_descriptor.__get__"))) (htk : takesIn K (.builtin "object.__class__") = some true) (hm : mroIn K D (.type "object") = some true) :
    KitX K (.ref x) (.ref D) (fun h => InstAt h x ox D odo) := by
  obtain ⟨cdD, hcD, _⟩ := any_some hdct
  have hlk : ∃ c' d' cd' sl', K.lookup D = some ⟨c', d', .cls cd', sl'⟩ := by
    unfold clsIn at hcD
    split at hcD
    · exact ⟨_, _, _, _, by assumption⟩
    · cases hcD
  obtain ⟨c', d', cd', sl', ho⟩ := hlk
  refine ⟨fun _ _ _ I => I.type, fun _ _ X _ => ?_, fun h tp dd its n sl X htp => ?_, fun {prog w A E Q s} X I k => ?_⟩
  · intro A' Q' E' s' k q
    unfold isType loadHead
    exact wpAny_bind (wpAny_loadPart (k _ _ (X _ _ ho)) (wpAny_pure q))
  · refine Bool.eq_false_iff.mpr fun q => ?_
    have e : D = tp := Value.ref.inj (beq_iff_eq.mp q)
    subst e
    have z := (X _ _ ho).symm.trans htp
    cases z
  · have hf : findObj K D odo "__class__" = some (.bind (.builtin "getset_descriptor.__get__") (.builtin "object.__class__")) := by
      unfold findObj
      rw [hcD, Option.bind_some, ha, Option.bind_some]
      simp [hn, htk]
    exact exc_attr X I hga hhk hsub hf rfl (fun A E Q' q' => wpAny_call (class_get (s := { s with toks := s.toks + 1 }) (ox := ox) (od := odo) X I hm q')) k
noncomputable abbrev clsNames : List Str := ["FallError", "NoOrder", "NoNumber", "NoSet", "NoRow", "NoLine", "NoText", "TooGreat"]
noncomputable def isSubN (c x : Str) : Bool := c == x || x == "FallError"
noncomputable def plainN (c : Str) : Bool := !(c == "NoText" || c == "TooGreat")
noncomputable def clsOk1 (K : Frag) (D : Addr) : Bool := findIn K (.ref D) "__getattribute__" == some (some (.builtin "BaseException.__getattribute__")) && findIn K (.ref D) "__getattr__" == some none && mroIn K D (.type "BaseException") == some true && hasDictIn K D && findIn K (.ref D) "__class__" == some (some (.builtin "object.__class__")) && specialIn K (.builtin "object.__class__") "__get__" == some (some (.builtin "getset_descriptor.__get__")) && takesIn K (.builtin "object.__class__") == some true && mroIn K D (.type "object") == some true
noncomputable def clsOk (K : Frag) (l : List (Str × Addr)) : Bool := l.all fun p => clsOk1 K p.2 && kitOne K (.ref p.2) (.type "ValueError") == some true && (!plainN p.1 || excIn K p.2 bmV "ValueError.__new__") && l.all fun q => kitOne K (.ref p.2) (.ref q.2) == some (isSubN p.1 q.1) && (!(q.1 == "FallError") || exmOne K (.ref p.2) (.ref q.2) == some true)
noncomputable def ClsIs (K : Frag) : Prop := ∃ l : List (Str × Addr), l.map (·.1) = clsNames ∧ (∀ p ∈ l, nsIn K mainGlobals p.1 = some (some (.ref p.2))) ∧ clsOk K l = true
theorem cls_mk {K : Frag} {a0 a1 a2 a3 a4 a5 a6 a7 : Addr} (e0 : nsIn K mainGlobals "FallError" = some (some (.ref a0))) (e1 : nsIn K mainGlobals "NoOrder" = some (some (.ref a1))) (e2 : nsIn K mainGlobals "NoNumber" = some (some (.ref a2))) (e3 : nsIn K mainGlobals "NoSet" = some (some (.ref a3)))
    (e4 : nsIn K mainGlobals "NoRow" = some (some (.ref a4))) (e5 : nsIn K mainGlobals "NoLine" = some (some (.ref a5))) (e6 : nsIn K mainGlobals "NoText" = some (some (.ref a6))) (e7 : nsIn K mainGlobals "TooGreat" = some (some (.ref a7)))
    (c : clsOk K [("FallError", a0), ("NoOrder", a1), ("NoNumber", a2), ("NoSet", a3), ("NoRow", a4), ("NoLine", a5), ("NoText", a6), ("TooGreat", a7)] = true) : ClsIs K :=
  ⟨_, rfl, by
    intro p hp
    simp only [List.mem_cons, List.not_mem_nil, or_false] at hp
    rcases hp with rfl | rfl | rfl | rfl | rfl | rfl | rfl | rfl <;> assumption, c⟩
structure Clss (K : Frag) (mg : Str → Option Value) : Prop where
  at_ : ∀ c ∈ clsNames, ∃ C, mg c = some (.ref C)
  one : ∀ c ∈ clsNames, ∀ C, mg c = some (.ref C) → clsOk1 K C = true ∧ kitOne K (.ref C) (.type "ValueError") = some true ∧ (plainN c = true → excIn K C bmV "ValueError.__new__" = true)
  two : ∀ c ∈ clsNames, ∀ C, mg c = some (.ref C) → ∀ x ∈ clsNames, ∀ X, mg x = some (.ref X) → kitOne K (.ref C) (.ref X) = some (isSubN c x)
  exm : ∀ c ∈ clsNames, ∀ C, mg c = some (.ref C) → ∀ X, mg "FallError" = some (.ref X) → exmOne K (.ref C) (.ref X) = some true
theorem Clss.of {K : Frag} {h : Heap} {mg : Str → Option Value} (X : K.In h) (G : h.Ns mainGlobals mg) (k : ClsIs K) : Clss K mg := by
  obtain ⟨l, h1, h2, h3⟩ := k
  have mem : ∀ c ∈ clsNames, ∀ C, mg c = some (.ref C) → (c, C) ∈ l := fun c hc C e => by
    rw [← h1] at hc
    obtain ⟨p, hp, rfl⟩ := List.mem_map.mp hc
    have := mg_of X G (h2 p hp)
    rw [e] at this; cases this
    exact hp
  have al := List.all_eq_true.mp h3
  refine ⟨fun c hc => ?_, fun c hc C e => ?_, fun c hc C e x hx D e' => ?_, fun c hc C e D e' => ?_⟩
  · rw [← h1] at hc
    obtain ⟨p, hp, rfl⟩ := List.mem_map.mp hc
    exact ⟨_, mg_of X G (h2 p hp)⟩
  · have := al _ (mem c hc C e)
    simp only [Bool.and_eq_true, beq_iff_eq, Bool.or_eq_true, Bool.not_eq_true'] at this
    refine ⟨this.1.1.1, this.1.1.2, fun z => this.1.2.elim (fun y => ?_) fun y => y⟩
    rw [z] at y; cases y
  · have := al _ (mem c hc C e)
    simp only [Bool.and_eq_true] at this
    have := List.all_eq_true.mp this.2 _ (mem x hx D e')
    simp only [Bool.and_eq_true, beq_iff_eq] at this
    exact this.1
  · have := al _ (mem c hc C e)
    simp only [Bool.and_eq_true] at this
    have := List.all_eq_true.mp this.2 _ (mem "FallError" (by decide) D e')
    simp only [Bool.and_eq_true, beq_iff_eq, Bool.or_eq_true, Bool.not_eq_true'] at this
    rcases this.2 with z | z
    · exact absurd z (by decide)
    · exact z
theorem instAt_of {P : Program} {w : World} {H : Hp} {h : Heap} {p C : Addr} {o : Obj} {fs : List (Str × Int)} (ok : HOk P w H h) (q : H p = some (FE.AtO p o)) (hc : o.cls = .ref C) (hd : ∃ vs, o.data = .fields vs) (xf : FE.XFs H o.dict fs) : ∃ odo, InstAt h p o C odo := by
  obtain ⟨q1, _⟩ := ok p _ q
  obtain ⟨vs, hd⟩ := hd
  have nc : notCls o = true := by unfold notCls; rw [hd]
  rcases xf with ⟨z, _⟩ | ⟨dx, od, z, q2⟩
  · exact ⟨none, q1, hc, nc, by rw [z]; trivial⟩
  · obtain ⟨q3, _⟩ := ok dx _ q2
    exact ⟨some od, q1, hc, nc, by rw [z]; exact q3⟩
end L2
namespace L2.FE
open PySem PySem.Spec PyProof.Rows
section
variable {X : Cx} {g : GG} {ε : EE} {K : PySem.W.Frag}
noncomputable def dIsC (x : Str) : D → Hh → R D := fun d h => match d with
  | .exc c _ => if (clsNames.contains c && clsNames.contains x) = true then .ok (.bl (isSubN c x)) h else .bad
  | _ => .bad
noncomputable def dIsV : D → Hh → R D := fun d h => match d with
  | .exc c _ => if clsNames.contains c = true then .ok (.bl true) h else .bad
  | _ => .bad
theorem gOf_some {mg : Str → Option Value} {x : Str} {f : Addr} (h : gOf mg x = some f) : mg x = some (.ref f) := by
  unfold gOf at h
  split at h
  · cases h; assumption
  · cases h
theorem call_isC (hc : Clss X.K X.mg) (hgo : g = gOf X.mg) : CallR X (.builtin "isinstance") (fun vs H Q => ∃ p D o c fs C b, vs = [.ref p, D] ∧ g c = some C ∧ H p = some (AtO p o) ∧ o.cls = .ref C ∧ (∃ us, o.data = .fields us) ∧ XFs H o.dict fs ∧ clsNames.contains c = true ∧ (∀ u, RelV D u → PySem.W.kitOne X.K (.ref C) u = some b) ∧ Q (.bl b) H) := by
  intro pins s σ H xs us Q I r h
  obtain ⟨p, D, o, c, fs, C, b, rfl, hg, hp, hcl, hd, xf, hcn, hk, q⟩ := h
  cases r with
  | @cons _ _ _ _ r1 r2 =>
    cases r2 with
    | @cons _ u _ _ r3 r4 =>
      cases r4
      cases r1
      obtain ⟨odo, ia⟩ := instAt_of I.hok hp hcl hd xf
      subst hgo
      have hC := gOf_some hg
      have k1 := (hc.one c (by simpa using hcn) C hC).1
      unfold clsOk1 at k1
      simp only [Bool.and_eq_true, beq_iff_eq] at k1
      obtain ⟨⟨⟨⟨⟨⟨⟨a1, a1b⟩, a1c⟩, a2⟩, a3⟩, a4⟩, a5⟩, a6⟩ := k1
      refine PySem.W.kia_one (kitx_exc a1 a1b a1c a2 a3 a4 a5 a6) I.kIn ia (hk u r3) (by intro z; cases z) fun tk => ?_
      exact ⟨.bl b, H, I.kept (h' := s.heap) (t' := tk) fun _ _ z => z, rfl, q⟩
theorem pe_cls {x : Str} {p : Pos} {C : Addr} (hg : Gl X x) (hm : X.mg x = some (.ref C)) (hd : (x == ("__debug__" : Str)) = false := by decide) : PE X (.Name x p) (tC (.ref C)) := fun pins s σ H Q I h => ld_glob I hg hm ⟨.ref C, H, I, rfl, h⟩ hd
theorem se_isC {e : Expr} {me : ME} {x : Str} {p1 p2 pos : Pos} (hc : Clss X.K X.mg) (hgo : g = gOf X.mg) (he : PE X e (tM X.K g ε me)) (hg : Gl X "isinstance") (hm : X.mg "isinstance" = none) (hg2 : Gl X x) (hx : x ∈ clsNames) (hd : (x == ("__debug__" : Str)) = false := by decide)
    (hs1 : starEach [e, .Name x p2] X.env = (false, eval e X.env) :: starEach [.Name x p2] X.env := by rfl) (hs2 : starEach [.Name x p2] X.env = [(false, eval (.Name x p2) X.env)] := by rfl) (hpl : (backTo pos (starEach [.Name x p2] X.env)).any (·.1) = false := by rfl) :
    PE X (.Call (.Name "isinstance" p1) [e, .Name x p2] [] pos) (tM X.K g ε (cUn (dIsC x) me)) := by
  obtain ⟨C2, hC2⟩ := hc.at_ x hx
  refine PE.imp (pe_callB (call_isC hc hgo) hg hm PyProof.Rows.boot_isinstance (pa_cons he (pa_cons (pe_cls hg2 hC2 hd) pa_nil hs2) hs1) (by decide) (by decide) hs1 hpl) fun σ H Q ⟨α, env, h, s, w⟩ => tM.use s w.bind fun d1 h1 v1 H1 α1 e1 s1 r1 w1 => ?_
  unfold dIsC at w1
  cases r1 with
  | @exc c C p o fs hgc hp hcl hdd xf =>
    obtain ⟨hh, w1⟩ := WQ.iteP w1
    rw [Bool.and_eq_true] at hh
    refine ⟨p, .ref C2, o, c, fs, C, _, rfl, hgc, hp, hcl, hdd, xf, hh.1, fun u ru => ?_, Post.now (Post.ext e1 w1) s1.heap (.bl _)⟩
    cases ru
    subst hgo
    exact hc.two c (by simpa using hh.1) C (gOf_some hgc) x hx C2 hC2
  | _ => exact w1.elim
theorem se_isV {e : Expr} {me : ME} {p1 p2 pos : Pos} (hc : Clss X.K X.mg) (hgo : g = gOf X.mg) (he : PE X e (tM X.K g ε me)) (hg : Gl X "isinstance") (hm : X.mg "isinstance" = none) (hg2 : Gl X "ValueError") (hm2 : X.mg "ValueError" = none)
    (hs1 : starEach [e, .Name "ValueError" p2] X.env = (false, eval e X.env) :: starEach [.Name "ValueError" p2] X.env := by rfl) (hs2 : starEach [.Name "ValueError" p2] X.env = [(false, eval (.Name "ValueError" p2) X.env)] := by rfl) (hpl : (backTo pos (starEach [.Name "ValueError" p2] X.env)).any (·.1) = false := by rfl) :
    PE X (.Call (.Name "isinstance" p1) [e, .Name "ValueError" p2] [] pos) (tM X.K g ε (cUn dIsV me)) := by
  refine PE.imp (pe_callB (call_isC hc hgo) hg hm PyProof.Rows.boot_isinstance (pa_cons he (pa_cons (pe_bltn (v := .ty "ValueError") hg2 hm2 PyProof.Rows.Boot.«ValueError» rfl (by decide) (by decide)) pa_nil hs2) hs1) (by decide) (by decide) hs1 hpl) fun σ H Q ⟨α, env, h, s, w⟩ => tM.use s w.bind fun d1 h1 v1 H1 α1 e1 s1 r1 w1 => ?_
  unfold dIsV at w1
  cases r1 with
  | @exc c C p o fs hgc hp hcl hdd xf =>
    obtain ⟨hh, w1⟩ := WQ.iteP w1
    refine ⟨p, .ty "ValueError", o, c, fs, C, _, rfl, hgc, hp, hcl, hdd, xf, hh, fun u ru => ?_, Post.now (Post.ext e1 w1) s1.heap (.bl _)⟩
    cases ru
    subst hgo
    exact (hc.one c (by simpa using hh) C (gOf_some hgc)).2.1
  | _ => exact w1.elim
theorem list_obj {h : Heap} {l : Addr} {its : Array Value} (x : h.IsList l its) : ∃ dd n sl, h.get? l = some { cls := .type "list", dict := dd, data := .seq its n, slots := sl } := by
  obtain ⟨⟨c, d, da, sl⟩, h1, h2, n, h3⟩ := x
  dsimp only at h2 h3
  subst h2 h3
  exact ⟨_, _, _, h1⟩
noncomputable def eqB (b : Bool) : Value → Bool
  | .bool c => c == b
  | _ => false
theorem vals_bls : ∀ {bs : List Bool} {us : List Value}, Vals (bs.map V.bl) us → us = bs.map Value.bool
  | [], _, .nil => rfl
  | b :: bs, _, .cons r t => by
    have e : _ = Value.bool b := r
    rw [e, vals_bls t]; rfl
noncomputable def rCountB (K : PySem.W.Frag) : V → List V → Hp → VK → Prop := fun x vs H Q => ∃ (l : Addr) (bs : List Bool) (b : Bool), x = .ref l ∧ vs = [.bl b] ∧ SqL K H l (bs.map V.bl) ∧ Q (.int (bs.countP (· == b) : Nat)) H
theorem mt_countB : MtM X "list.count" (rCountB X.K) := by
  intro pins s σ H x vs v us Q I rx rv h
  obtain ⟨l, bs, b, rfl, rfl, hq, q⟩ := h
  cases rx
  obtain ⟨u, rfl, ru⟩ := rv.one
  have e0 : u = Value.bool b := ru
  subst e0
  obtain ⟨its, rs, pl, hz⟩ := I.list hq
  have ei := vals_bls rs
  subst ei
  obtain ⟨dd, n, sl, ho⟩ := list_obj pl.isList
  refine call_meets F.slot_list_count ⟨_, ho, rfl⟩ F.entry_list_count (F.args_list_count_2 _ _) (SeqAt.list_countAt l _ n dd sl (.bool b) (eqB b)) ⟨ho, fun y hy => ?_, ?_⟩
  · obtain ⟨c, _, rfl⟩ := List.mem_map.mp (by simpa using hy : y ∈ bs.map Value.bool)
    exact SeqAt.EqAt.bool_bool c b
  · refine ⟨.int (bs.countP (· == b) : Nat), H, I.kept (h' := s.heap) (t' := s.toks + 1) fun _ _ z => z, ⟨s.toks, ?_⟩, q⟩
    rw [List.toList_toArray, List.countP_map]
    rfl
noncomputable def rIndexB (K : PySem.W.Frag) : V → List V → Hp → VK → Prop := fun x vs H Q => ∃ (l : Addr) (bs : List Bool) (b : Bool) (j : Nat), x = .ref l ∧ vs = [.bl b] ∧ SqL K H l (bs.map V.bl) ∧ bs.findIdx? (· == b) = some j ∧ bs.length < 1000000 ∧ Q (.int (j : Nat)) H
theorem mt_indexB : MtM X "list.index" (rIndexB X.K) := by
  intro pins s σ H x vs v us Q I rx rv h
  obtain ⟨l, bs, b, j, rfl, rfl, hq, hj, hlen, q⟩ := h
  cases rx
  obtain ⟨u, rfl, ru⟩ := rv.one
  have e0 : u = Value.bool b := ru
  subst e0
  obtain ⟨its, rs, pl, hz⟩ := I.list hq
  have ei := vals_bls rs
  subst ei
  obtain ⟨dd, n, sl, ho⟩ := list_obj pl.isList
  obtain ⟨hlt, hit, hno⟩ := List.findIdx?_eq_some_iff_getElem.mp hj
  refine call_meets F.slot_list_index ⟨_, ho, rfl⟩ F.entry_list_index (F.args_list_index_2 _ _) (SeqAt.list_indexAt l _ n dd sl (.bool b) (eqB b) j (by simpa using hlt) (by omega) ?_ ?_) ⟨ho, fun y hy => ?_, ?_⟩
  · simpa [eqB] using hit
  · intro m hm h2
    have := hno m h2
    simpa [eqB] using this
  · obtain ⟨c, _, rfl⟩ := List.mem_map.mp (by simpa using hy : y ∈ bs.map Value.bool)
    exact SeqAt.EqAt.bool_bool c b
  · exact ⟨.int (j : Nat), H, I.kept (h' := s.heap) (t' := s.toks + 1) fun _ _ z => z, ⟨s.toks, rfl⟩, q⟩
noncomputable def dCountB : D → List D → Hh → R D := fun o ds h => match o, ds with
  | .frl xs, [.bl b] => match blsOf xs with
    | some bs => .ok (.int (bs.countP (· == b) : Nat)) h
    | none => .bad
  | _, _ => .bad
noncomputable def dIndexB : D → List D → Hh → R D := fun o ds h => match o, ds with
  | .frl xs, [.bl b] => match blsOf xs with
    | some bs => match bs.findIdx? (· == b) with
      | some j => if bs.length < 1000000 then .ok (.int (j : Nat)) h else .bad
      | none => .bad
    | none => .bad
  | _, _ => .bad
theorem im_countB : ImpM K g ε dCountB (rCountB K) := by
  intro α H h o a y x Q r ro ra w
  unfold dCountB at w
  cases ro with
  | @frl ds p vs hq rs =>
    cases ra with
    | nil => exact w.elim
    | cons rd rr =>
      cases rr with
      | cons _ _ => cases rd <;> exact w.elim
      | nil =>
        cases rd with
        | bl b =>
          simp only at w
          cases e2 : blsOf ds with
          | none => rw [e2] at w; exact w.elim
          | some bs =>
            rw [e2] at w
            have e3 := blsOf_some e2
            subst e3
            have e4 := rs.blsV
            subst e4
            exact ⟨p, bs, b, rfl, rfl, hq.sq, Post.now w r (.int _)⟩
        | _ => exact w.elim
  | _ => exact w.elim
theorem im_indexB : ImpM K g ε dIndexB (rIndexB K) := by
  intro α H h o a y x Q r ro ra w
  unfold dIndexB at w
  cases ro with
  | @frl ds p vs hq rs =>
    cases ra with
    | nil => exact w.elim
    | cons rd rr =>
      cases rr with
      | cons _ _ => cases rd <;> exact w.elim
      | nil =>
        cases rd with
        | bl b =>
          simp only at w
          cases e2 : blsOf ds with
          | none => rw [e2] at w; exact w.elim
          | some bs =>
            rw [e2] at w
            simp only at w
            cases e5 : bs.findIdx? (· == b) with
            | none => rw [e5] at w; exact w.elim
            | some j =>
              rw [e5] at w
              obtain ⟨hl, w⟩ := WQ.iteP w
              have e3 := blsOf_some e2
              subst e3
              have e4 := rs.blsV
              subst e4
              exact ⟨p, bs, b, j, rfl, rfl, hq.sq, e5, hl, Post.now w r (.int _)⟩
        | _ => exact w.elim
  | _ => exact w.elim
end
end L2.FE
namespace L2
open PySem PySem.Spec PyProof.Rows
theorem Inv.unwpn {X : Cx} {pins pins' pn : List (Addr × Obj)} {σ : St} {H : Hp} {s : Shared} {E : Value → Shared → Prop} (J : Inv (X.wpn pn E) pins' σ H s) (hp : ∀ p ∈ X.pn ++ pins, p ∈ pn ++ pins') : Inv X pins σ H s :=
  ⟨⟨J.ok.mod, J.ok.kind, J.ok.glob, J.ok.blt, J.ok.above, J.ok.inj, J.ok.has, J.ok.cab, J.ok.hd, J.ok.frames, J.ok.stk, J.ok.exf, J.ok.bs, J.ok.bsz, J.ok.noex, J.ok.exfs, J.ok.funs, J.ok.frf⟩, J.os, J.bare, J.base, J.loc, J.cell, J.free, J.freeC, fun p h => J.pin p (hp p h), J.hok, J.len⟩
end L2
namespace L2.FE
open PySem PySem.Spec PyProof.Rows
noncomputable def HasH (P : Program) (w : World) (K : PySem.W.Frag) (mg : Str → Option Value) (base : Heap) (g : GG) (x : Str) (k : Nat) (ps : List Str) (m : MF) : Prop :=
  ∃ f fd, FnH P w K mg base k f fd ps (spM K g ps.length m) ∧ PySem.W.keepIn K (.ref f) = true ∧ Binds K fd ps [] ∧ mg x = some (.ref f)
section
variable {P : Program} {w : World} {K : PySem.W.Frag} {mg : Str → Option Value} {base : Heap} {g : GG}
theorem fn_mH {x qual : Str} {st : Stmt} {f : Addr} {fd : FuncData} {N ps : List Str} {k : Nat} {mb : MS} (F : Fun K x qual st f fd) (S : FnScope N ps (defScope st))
    (hb : ∀ (cdv : Value) (A : Around) (outer : List Env) (s : Shared) (H : Hp) (E : XK), Room k (unm (A.deeper (envOfC qual (defScope st) s.heap.objs.size f cdv))) →
      PSs (cxH P w K mg base N qual (defScope st) f cdv A outer s H E) (defBody st) (tMS K g E00 mb)) : FnH P w K mg base (k + 1) f fd ps (spM K g ps.length (cFun N.length mb)) := by
  refine fnH_of F S (fun vs H Q E h => h.1) fun cdv A outer s H vs Q E hr h => ⟨_, hb cdv A outer s H E hr, ?_⟩
  obtain ⟨hl, α, ds, h, rs, hh, w⟩ := h
  refine tMS.use ⟨hh, start_rel rs⟩ w.bind fun fl h' H' α' e r kk => ?_
  cases fl with
  | nx e' => exact fun σ' s' => (show Post K g α H Q .non h' from kk) _ H' α' e r .non
  | bk e' => exact kk.elim
  | ct e' => exact kk.elim
  | rt d => exact fun v rv => (show Post K g α H Q d h' from kk) _ H' α' e r rv
end
section
variable {X : Cx} {g : GG} {ε : EE}
theorem se_callH {k : Nat} {f : Addr} {fd : FuncData} {ps : List Str} {m : MF} {np : Nat} {x : Str} {p pos : Pos} {e : Expr} {es : List Expr} {mr : MA} (F : FnH X.prog X.w X.K X.mg X.base k f fd ps (spM X.K g np m)) (hr : Room k (unm X.A)) (hg : Gl X x) (hm : X.mg x = some (.ref f)) (hk : PySem.W.keepIn X.K (.ref f) = true) (hb : Binds X.K fd ps [])
    (ha : PA X (e :: es) (tMA X.K g E00 mr)) (hlen : ∀ env h ds h', mr env h = .ok ds h' → ds.length = np) (hdb : (x == ("__debug__" : Str)) = false := by decide) (he : starEach (e :: es) X.env = (false, eval e X.env) :: starEach es X.env := by rfl) (hpl : (backTo pos (starEach es X.env)).any (·.1) = false := by rfl) :
    PE X (.Call (.Name x p) (e :: es) [] pos) (tM X.K g E00 (cCall m mr)) :=
  PE.imp (pe_callH F hr hg hm hk hb ha hdb he hpl) fun σ H Q ⟨α, env, h, s, w⟩ => ⟨α, env, h, s, w.bind.mono fun d1 h1 eq w1 v1 H1 α1 e1 hr1 r1 => by
    show spM X.K g np m (v1 ++ []) H1 Q E0
    rw [List.append_nil]
    refine ⟨?_, α1, d1, h1, r1, hr1, w1.post e1⟩
    rw [← r1.length]
    exact hlen env h d1 h1 eq⟩
noncomputable def cTry (mb : MS) (mr : MF) : MS := fun env h => match mb env h with
  | .ok fl h' => .ok fl h'
  | .err x h' => if (clsNames.contains x.cls && (h'.take h.length).all (lowO h.length)) = true then (noR (mr [.exc x.cls x.fs] (h'.take h.length))).bind fun d h2 => .ok (.rt d) h2 else .bad
  | .bad => .bad
theorem s_try {body : List Stmt} {mb : MS} {mr : MF} {k : Nat} {f : Addr} {fd : FuncData} {ps : List Str} {i : Nat} {n y : Str} {np p1 p2 cpos rpos hpos pos : Pos}
    (hcl : Clss X.K X.mg) (hgo : g = gOf X.mg) (pl : Plain X) (hN : X.N.Nodup) (hi : X.N[i]? = some n) (hl : X.env.scope.names.lookup n = some .local) (hgF : Gl X "FallError") (hgR : Gl X y)
    (F : FnH X.prog X.w X.K X.mg X.base k f fd ps (spM X.K g 1 mr)) (hr : Room k (unm X.A)) (hm : X.mg y = some (.ref f)) (hk : PySem.W.keepIn X.K (.ref f) = true) (hb : Binds X.K fd ps [])
    (hbd : ∀ (pn : List (Addr × Obj)) (xe : Value → Shared → Prop) (E : XK), Flows (X.wpn pn xe) E → Plain (X.wpn pn xe) → PassesOwn (model X.prog X.w) X.A X.env xe → PSs (X.wpn pn xe) body (tMS X.K g (εX g E) mb))
    (hdn : (n == ("__debug__" : Str)) = false := by decide) (hdc : (n == ("__classdict__" : Str)) = false := by decide) (hdb : (y == ("__debug__" : Str)) = false := by decide)
    (hst : starEach [.Name n p2] X.env = (false, eval (.Name n p2) X.env) :: starEach [] X.env := by rfl) (hpl : (backTo cpos (starEach [] X.env)).any (·.1) = false := by rfl) :
    PS X (.Try body [.ExceptHandler (some (.Name "FallError" np)) (some n) [.Return (some (.Call (.Name y p1) [.Name n p2] [] cpos)) rpos] hpos] [] [] pos) (tMS X.K g ε (cTry mb mr)) := by
  intro pins s σ H D I ⟨α, env, h, sr, w⟩
  obtain ⟨CF, hmF⟩ := hcl.at_ "FallError" (by decide)
  refine wpAny_Try_except ?_
  let K1 : Value → Shared → Prop := fun e s₁ => wpAny (model X.prog X.w) X.A (noteFrame e X.env) (fun _ s₂ => wpAny (model X.prog X.w) X.A (setFlight e none) (fun _ s₃ => wpAny (model X.prog X.w) X.A (handleBy e X.env [.ExceptHandler (some (.Name "FallError" np)) (some n) [.Return (some (.Call (.Name y p1) [.Name n p2] [] cpos)) rpos] hpos]) (SP X pins D) X.xe s₃) X.xe s₂) X.xe s₁
  let E1 : XK := fun C dc H' => ∃ α' x h', mb env h = .err x h' ∧ Ext X.K α H α' H' ∧ HRel X.K g α' H' h' ∧ (∃ C0, C = .ref C0 ∧ g x.cls = some C0) ∧ XFs H' dc x.fs
  have un : ∀ {σ : St} {H : Hp} {s : Shared}, Inv (X.wpn (X.pn ++ pins) K1) [] σ H s → Inv X pins σ H s := fun J => J.unwpn fun p hp => by simpa using hp
  have fl : Flows (X.wpn (X.pn ++ pins) K1) E1 := by
    rintro e s1 ⟨σ1, H1, B, a, C, dc, rfl, J, ar, cv, pn, α', x, h', eq, ext, hr', ⟨C0, rfl, hgC⟩, xf⟩
    have ar' : Arr B (X.env :: X.outer) a (.ref C0) dc s1.heap := by rw [← pl.stk.1]; exact ar
    have hA : X.A.frames = some (X.env :: X.outer) := by rw [← pl.stk.1]; exact J.ok.frames
    have pl1 : Plain (X.wpn (X.pn ++ pins) K1) := ⟨pl.ex, pl.stk⟩
    unfold cTry at w
    rw [eq] at w
    obtain ⟨low, w⟩ := WQ.iteP w
    rw [Bool.and_eq_true] at low
    obtain ⟨hcn, low⟩ := low
    refine arr_note hA pl.stk.2 ar' fun h2 y2 g2 => fly_set y2 fun h3 y3 g3 => ?_
    have J3 : Inv (X.wpn (X.pn ++ pins) K1) [] σ1 H1 { s1 with heap := h3 } := J.flew (t' := s1.toks) pl1 cv pn ar.stays ar.fr y3.stays (g2.trans g3)
    refine wpAny_handleBy_cons (codeAny_handlers_test ?_) (by intro q; cases q)
    have J3h : Inv ((X.wpn (X.pn ++ pins) K1).hand (X.A.mark (some (.ref a))) (X.pn ++ pins) fun _ _ => False) [] σ1 H1 { s1 with heap := h3 } := Inv.hand (A := X.A.mark (some (.ref a))) (pn := X.pn ++ pins) J3 rfl (fun p hp => hp) _
    refine ld_glob J3h hgF hmF ?_
    obtain ⟨ob, ws0, hob, hoc, _, _⟩ := y3.there
    have LT : PySem.W.Looks (model X.prog X.w) h3 (typeOf (.ref a)) (.ref C0) := hoc ▸ (PySem.W.Looks.ld hob).andThen .now
    have hx : PySem.W.exmOne X.K (.ref C0) (.ref CF) = some true := by
      subst hgo
      exact hcl.exm x.cls (by simpa using hcn) C0 (gOf_some hgC) CF hmF
    refine (PySem.W.exm_one J3.kIn LT hx).here ?_
    refine codeAny_handlers_suite_as ?_
    refine fly_set y3 fun h4 y4 g4 => ?_
    have J4 : Inv (X.wpn (X.pn ++ pins) K1) [] σ1 H1 { s1 with heap := h4 } := J.flew (t' := s1.toks) pl1 cv pn ar.stays ar.fr y4.stays (g2.trans (g3.trans g4))
    obtain ⟨oe, ws, q1, q2, q3, q4⟩ := y4.there
    have fr4 : h4.FunFrames B X.stack := by rw [pl.stk.1]; exact y4.fr
    obtain ⟨hn, J5⟩ := J4.adopt pl1 cv pn fr4 y4.new q1 q4
    refine store_ok (X := X.wpn (X.pn ++ pins) K1) J5 hN hi (.inl hl) (v := .ref a) (u := .ref a) rfl (fun s6 J6 => ?_) (.inr hl)
    have J7 : Inv ((X.wpn (X.pn ++ pins) K1).hand (X.A.mark (some (.ref a))) (X.pn ++ pins) fun _ _ => False) [] (σ1.set i (some (.ref a))) (upd H1 a (AtO a oe)) s6 := Inv.hand (A := X.A.mark (some (.ref a))) (pn := X.pn ++ pins) J6 rfl (fun p hp => hp) _
    have T := pss_one (ps_ret (pos := rpos) (pe_callH (X := (X.wpn (X.pn ++ pins) K1).hand (X.A.mark (some (.ref a))) (X.pn ++ pins) fun _ _ => False) (p := p1) (pos := cpos) F hr hgR hm hk hb (pa_cons (pe_var (pos := p2) hi (.inl hl) hdn hdc) pa_nil hst) hdb hst hpl))
    have lenσ : i < σ1.length := by rw [J.len]; exact (List.getElem?_eq_some_iff.mp hi).1
    refine wpAny_mono (T [] s6 _ _ { nx := fun _ _ => False, rt := D.rt } J7 ⟨.ref a, by simp [lenσ], ?_⟩) (fun fl s7 q => ?_) fun _ _ z => z.elim
    · show spM X.K g 1 mr ([.ref a] ++ []) (upd H1 a (AtO a oe)) D.rt E0
      have k0 : α.length = h.length := sr.heap.len
      have fz : ∀ p o u, H1 p = some (.frz o u) → upd H1 a (AtO a oe) p = some (.frz o u) := fun p o u z => by rw [upd_ne (ne_of_none z hn)]; exact z
      have Lw : Lower X.K α α' H1 (upd H1 a (AtO a oe)) h.length := ⟨fun m hm => pre_get ext.pre (by omega), fun p xs z => by rw [upd_ne (ne_of_none z hn)]; exact z, fz⟩
      have kp : ∀ m p u, m < h.length → α'[m]? = some p → H1 p = some u → upd H1 a (AtO a oe) p = some u := fun m p u _ _ z => by rw [upd_ne (ne_of_none z hn)]; exact z
      have ex2 : Ext X.K α H α (upd H1 a (AtO a oe)) := ⟨⟨List.prefix_refl _, fun p xs z => Lw.tup p xs (ext.tup p xs z), fun p o u z => fz p o u (ext.frz p o u z)⟩, fun p u z m => by
        have := ext.keep p u z m
        rw [upd_ne (ne_of_none this hn)]; exact this, fun _ z m => absurd z m⟩
      refine ⟨rfl, α, [.exc x.cls x.fs], h'.take h.length, .cons (.exc hgC upd_same q2 ⟨ws, q4⟩ ?_) .nil, ⟨?_, sr.heap.inj, fun m p ob h1 h2 => ?_⟩, ?_⟩
      · rw [q3]
        exact xf.elim .inl fun ⟨dx, od, z1, z2⟩ => .inr ⟨dx, od, z1, fz _ _ _ z2⟩
      · rw [List.length_take, ← hr'.len, k0]
        have := ext.pre.length_le
        omega
      · have hm : m < h.length := (take_get h2).1
        rw [pre_get ext.pre (by omega)] at h1
        exact low_heap k0 ext hr' low Lw kp m p ob hm h1 h2
      · refine ((noR_wq w.bind).ext ex2).mono fun d h2 _ kk v H2 α2 e2 r2 rd => ?_
        exact (show PostS X.K g α H D (.rt d) h2 from kk) H2 α2 (ex2.trans e2) r2 v rd
    · cases fl with
      | ret u =>
        obtain ⟨v, σ7, H7, J8, rv, q⟩ := q
        obtain ⟨m, hm7, _⟩ := J8.loc
        have J9 : Inv X pins σ7 H7 s7 := un (Inv.back (pins := []) J8 J.ok fun p hp => hp)
        refine wpAny_nameGoes_keeps hl hm7 (by rw [I.ok.kind]; rfl) fun h8 v8 hn8 sb => ?_
        exact ⟨v, σ7.set i none, H7, J9.forget hN hi hm7 hn8 (fun z hz => if_neg hz) sb, rv, q⟩
      | next => obtain ⟨_, _, _, q⟩ := q; exact q.elim
      | brk => obtain ⟨_, _, _, q⟩ := q; exact q.elim
      | cont => obtain ⟨_, _, _, q⟩ := q; exact q.elim
  have I1 : Inv (X.wpn (X.pn ++ pins) K1) [] σ H s := I.wpn (fun p hp => by simpa using hp) _
  refine wpAny_mono (hbd (X.pn ++ pins) K1 E1 fl ⟨pl.ex, pl.stk⟩ PassesOwn.looking [] s σ H D I1 ⟨α, env, h, sr, ?_⟩) (fun f s1 q => ?_) fun _ _ z => z
  · unfold cTry at w
    cases eq : mb env h with
    | ok fl h' => rw [eq] at w; exact w
    | err x h' => exact fun α' H' e r C dc hg xf => ⟨α', x, h', eq, e, r, ⟨C, rfl, hg⟩, xf⟩
    | bad => rw [eq] at w; exact w.elim
  · cases f with
    | next => obtain ⟨σ', H', J, q⟩ := q; exact wpAny_execs_nil ⟨σ', H', un J, q⟩
    | brk => obtain ⟨σ', H', J, q⟩ := q; exact ⟨σ', H', un J, q⟩
    | cont => obtain ⟨σ', H', J, q⟩ := q; exact ⟨σ', H', un J, q⟩
    | ret u => obtain ⟨v, σ', H', J, r, q⟩ := q; exact ⟨v, σ', H', un J, r, q⟩
end
end L2.FE
namespace L2
open PySem PySem.Spec PyProof.Rows
theorem room_unm {k : Nat} {A : Around} (h : Room k A) : Room k (unm A) := ⟨rfl, h.dp, h.un, h.gd⟩
end L2
namespace PySem.SeqAt
open PySem PySem.Spec PyProof.Rows PySem.MeetsSeq PySem.MeetsSeq2 PySem.MeetsSeq3
open PySem.AutoSeq1 (wpAny_loadPart')
end PySem.SeqAt
namespace L2.FE
open PySem PySem.Spec PyProof.Rows
section
variable {X : Cx} {g : GG} {ε : EE} {K : PySem.W.Frag}
end
end L2.FE
namespace L2
open PySem PySem.Spec PyProof.Rows
inductive RdE (K : PySem.W.Frag) (H : Hp) : V → PyData → Prop
  | non : RdE K H .non .none
  | bl (b : Bool) : RdE K H (.bl b) (.bool b)
  | int (i : Int) : RdE K H (.int i) (.int i)
  | str (x : Str) : RdE K H (.str x) (.str x)
  | tup {a : Addr} {xs : List V} {ds : List PyData} (h : SqT K H a xs) (hl : xs.length = ds.length) (hx : ∀ (i : Nat) x d, xs[i]? = some x → ds[i]? = some d → RdE K H x d) : RdE K H (.ref a) (.tuple ds)
  | edic {a : Addr} {o : Obj} (h : H a = some (.frz o (.dK []))) : RdE K H (.ref a) (.dict [])
theorem readsAllE {h : Heap} : ∀ {us : List Value} {ds : List PyData}, us.length = ds.length → (∀ (i : Nat) u d, us[i]? = some u → ds[i]? = some d → ∃ as, Reads h u d as ∧ sysModules ∉ as) → ∃ as, ReadsAll h us ds as ∧ sysModules ∉ as
  | [], [], _, _ => ⟨_, .nil, by simp⟩
  | [], _ :: _, hl, _ => by simp at hl
  | _ :: _, [], hl, _ => by simp at hl
  | u :: us, d :: ds, hl, hx => by
    obtain ⟨as, h1, n1⟩ := hx 0 u d rfl rfl
    obtain ⟨bs, h2, n2⟩ := readsAllE (us := us) (ds := ds) (by simpa using hl) fun i u d e1 e2 => hx (i + 1) u d (by simpa using e1) (by simpa using e2)
    exact ⟨_, .cons h1 h2, by simp [n1, n2]⟩
section
variable {X : Cx}
theorem Inv.readsE {pins : List (Addr × Obj)} {σ : St} {H : Hp} {s : Shared} (I : Inv X pins σ H s) {x : V} {d : PyData} (r : RdE X.K H x d) : ∀ u, RelV x u → ∃ as, Reads s.heap u d as ∧ sysModules ∉ as := by
  induction r with
  | non => intro u ru; cases (show u = Value.none from ru); exact ⟨_, .none, by simp⟩
  | bl b => intro u ru; cases (show u = Value.bool b from ru); exact ⟨_, .bool b, by simp⟩
  | int i => intro u ru; obtain ⟨t, q⟩ := (show ∃ t, u = Value.int i t from ru); cases q; exact ⟨_, .int i t, by simp⟩
  | str y => intro u ru; obtain ⟨t, q⟩ := (show ∃ t, u = Value.str y t from ru); cases q; exact ⟨_, .str y t, by simp⟩
  | @tup a xs ds h hl hx ih =>
    intro u ru
    cases (show u = Value.ref a from ru)
    obtain ⟨its, rv, p, hz⟩ := I.tuple h
    obtain ⟨o, ho, hc, n, hd⟩ := p
    obtain ⟨as, ra, na⟩ := readsAllE (h := s.heap) (us := its) (ds := ds) (by rw [← rv.length, hl]) fun i u d e1 e2 => by
      obtain ⟨y, e3, ry⟩ := rv.get' e1
      exact ih i y d e3 e2 u ry
    exact ⟨_, .tuple ho hc hd (by simpa using ra), na⟩
  | @edic a o h =>
    intro u ru
    cases (show u = Value.ref a from ru)
    obtain ⟨_, _, na, vs, kv, o', es, ep, e1, e2, e3, e4⟩ := I.hok a _ h
    have hv : vs = [] := by cases kv; rfl
    subst hv
    have he : es.toList = [] := by
      have := e4.2.1.length
      simpa using this
    exact ⟨_, .dict (kvs := []) (as := []) (bs := []) e1 e2.1 e3 (by rw [he]; exact .nil) (by rw [he]; exact .nil), by simpa using fun z => (by rw [← z] at na; simp at na)⟩
theorem call_reprE (hg : X.A.guards = some []) (hu : X.A.units + 64 < cLine) : CallR X (.builtin "repr") (fun vs H Q => ∃ p d, vs = [.ref p] ∧ RdE X.K H (.ref p) d ∧ d.showable = true ∧ d.depth ≤ 60 ∧ d.shown.length ≤ sizeLine ∧ Q (.str d.shown) H) := by
  intro pins s σ H xs us Q I r h
  obtain ⟨p, d, rfl, rd, hs, hdp, hz, q⟩ := h
  obtain ⟨u, rfl, rx⟩ := vals1 r
  cases rx
  obtain ⟨as, ra, na⟩ := I.readsE rd (.ref p) rfl
  exact repr_of_reads' ra hs (fun _ => na) hg (by omega) (fun _ _ e => e) (fun h' u tk kp => ⟨.str d.shown, H, I.kept kp, ⟨_, rfl⟩, q⟩) hz
theorem call_reprN : CallR X (.builtin "repr") (fun vs H Q => vs = [.non] ∧ Q (.str "None") H) := by
  intro pins s σ H xs us Q I r h
  obtain ⟨rfl, q⟩ := h
  obtain ⟨u, rfl, rx⟩ := vals1 r
  cases (show u = Value.none from rx)
  exact PySem.P.repr_of_none ⟨.str "None", H, I.tok _, ⟨_, rfl⟩, q⟩
theorem call_reprB : CallR X (.builtin "repr") (fun vs H Q => ∃ b, vs = [.bl b] ∧ Q (.str (if b then "True" else "False")) H) := by
  intro pins s σ H xs us Q I r h
  obtain ⟨b, rfl, q⟩ := h
  obtain ⟨u, rfl, rx⟩ := vals1 r
  cases (show u = Value.bool b from rx)
  exact PySem.P.repr_of_bool ⟨.str (if b then "True" else "False"), H, I.tok _, ⟨_, rfl⟩, q⟩
theorem call_reprS : CallR X (.builtin "repr") (fun vs H Q => ∃ x, vs = [.str x] ∧ (reprText x).length ≤ sizeLine ∧ Q (.str (reprText x)) H) := by
  intro pins s σ H xs us Q I r h
  obtain ⟨x, rfl, hz, q⟩ := h
  obtain ⟨u, rfl, t, rfl⟩ := vals1 r
  exact PySem.P.repr_of_str ⟨.str (reprText x), H, I.tok _, ⟨_, rfl⟩, q⟩ hz
end
end L2
namespace L2.FE
open PySem PySem.Spec PyProof.Rows
noncomputable def toPyE : Nat → D → Option PyData
  | 0, _ => none
  | k + 1, d => match d with
    | .non => some .none
    | .bl b => some (.bool b)
    | .int i => if sml i = true then some (.int i) else none
    | .str x => if x.cps.toList.all (fun c => decide (c < 16 ^ 8)) = true then some (.str x) else none
    | .tup ds => (toPys (toPyE k) ds).map .tuple
    | .edic => some (.dict [])
    | _ => none
structure PyOkE (k : Nat) (d : PyData) : Prop where
  sh : d.showable = true
  dp : d.depth ≤ k
  lv : d.leavesShort 1921 = true
structure PysOkE (k : Nat) (ds : List PyData) : Prop where
  sh : PyData.showableAll ds = true
  dp : PyData.depthAll ds ≤ k
  lv : PyData.leavesShortAll 1921 ds = true
section
variable {K : PySem.W.Frag} {g : GG} {α : List Addr} {H : Hp} {h : Hh} {X : Cx} {ε : EE}
theorem toPysE_ok {f : D → Option PyData} {k : Nat} (hf : ∀ d x p, RelD K g α H d x → f d = some p → RdE K H x p ∧ PyOkE k p) : ∀ {ds : List D} {vs : List V} {ps : List PyData}, RelDs K g α H ds vs → toPys f ds = some ps →
    PysOkE k ps ∧ vs.length = ps.length ∧ ∀ (i : Nat) x d, vs[i]? = some x → ps[i]? = some d → RdE K H x d
  | _, _, _, .nil, e => by
    cases e
    exact ⟨⟨by simp [PyData.showableAll], by simp [PyData.depthAll], by simp [PyData.leavesShortAll]⟩, rfl, fun i x d h => by simp at h⟩
  | _, _, _, .cons r t, e => by
    unfold toPys at e
    split at e
    · rename_i p ps h1 h2
      cases e
      obtain ⟨a1, a2⟩ := hf _ _ _ r h1
      obtain ⟨b1, b2, b3⟩ := toPysE_ok hf t h2
      refine ⟨⟨by rw [PyData.showableAll, a2.sh, b1.sh]; rfl, by rw [PyData.depthAll]; exact Nat.max_le.mpr ⟨a2.dp, b1.dp⟩, by rw [PyData.leavesShortAll, a2.lv, b1.lv]; rfl⟩, by simp [b2], fun i x d hx hd => ?_⟩
      cases i with
      | zero => simp at hx hd; subst hx hd; exact a1
      | succ i => exact b3 i x d (by simpa using hx) (by simpa using hd)
    · cases e
theorem toPyE_ok : ∀ (k : Nat) (d : D) (x : V) (p : PyData), RelD K g α H d x → toPyE k d = some p → RdE K H x p ∧ PyOkE k p
  | 0, _, _, _, _, e => by cases e
  | k + 1, d, x, p, rd, e => by
    unfold toPyE at e
    cases rd with
    | non => cases e; exact ⟨.non, by simp [PyData.showable], by simp [PyData.depth], by simp [PyData.leavesShort]⟩
    | bl b => cases e; exact ⟨.bl b, by simp [PyData.showable], by simp [PyData.depth], by simp [PyData.leavesShort]⟩
    | int i =>
      simp only at e
      split at e
      · rename_i hs
        cases e
        have hl : i.natAbs.log2 < 1920 := Nat.lt_trans (sml_log hs) (by decide)
        exact ⟨.int i, by simp [PyData.showable, hl], by simp [PyData.depth], by simp only [PyData.leavesShort, decide_eq_true_eq]; exact int_text_len_1921 hl⟩
      · cases e
    | str z =>
      simp only at e
      split at e
      · rename_i hs
        cases e
        exact ⟨.str z, by simp [PyData.showable], by simp [PyData.depth], by simpa only [PyData.leavesShort] using hs⟩
      · cases e
    | edic hp => cases e; exact ⟨.edic hp, by simp [PyData.showable, PyData.showableKv], by simp [PyData.depth, PyData.depthKv], by simp [PyData.leavesShort, PyData.leavesShortKv]⟩
    | tup hp rs =>
      simp only at e
      cases e1 : toPys (toPyE k) _ with
      | none => rw [e1] at e; cases e
      | some ps =>
        rw [e1] at e
        cases e
        obtain ⟨b1, b2, b3⟩ := toPysE_ok (fun d x p => toPyE_ok k d x p) rs e1
        exact ⟨.tup (SqT.of hp) b2 b3, by rw [PyData.showable]; exact b1.sh, by rw [PyData.depth]; exact Nat.succ_le_succ b1.dp, by rw [PyData.leavesShort]; exact b1.lv⟩
    | _ => cases e
noncomputable def repE (d : D) (h : Hh) : R D := match toPyE 12 d with
  | some p => if p.bulk ≤ 8000 then .ok (.str p.shown) h else .bad
  | none => .bad
noncomputable def dReprM : List D → Hh → R D := fun ds h => match ds with
  | [.non] => .ok (.str "None") h
  | [.bl b] => .ok (.str (if b then "True" else "False")) h
  | [.str x] => if (reprText x).length ≤ 1000000 then .ok (.str (reprText x)) h else .bad
  | [.tup ds] => repE (.tup ds) h
  | [.edic] => repE .edic h
  | _ => .bad
noncomputable def dReprX : List D → Hh → R D := fun ds h => match dRepr ds h with
  | .ok d h' => .ok d h'
  | _ => dReprM ds h
noncomputable abbrev rrReprX (K : PySem.W.Frag) : List V → Hp → VK → Prop := fun vs H Q => rrRepr K vs H Q ∨ (∃ p d, vs = [.ref p] ∧ RdE K H (.ref p) d ∧ d.showable = true ∧ d.depth ≤ 60 ∧ d.shown.length ≤ sizeLine ∧ Q (.str d.shown) H) ∨ (vs = [.non] ∧ Q (.str "None") H) ∨ (∃ b, vs = [.bl b] ∧ Q (.str (if b then "True" else "False")) H) ∨ ∃ x, vs = [.str x] ∧ (reprText x).length ≤ sizeLine ∧ Q (.str (reprText x)) H
theorem or_reprX (hg : X.A.guards = some []) (hu : X.A.units + 64 < cLine) : CallR X (.builtin "repr") (rrReprX X.K) := CallR.or (or_repr hg hu) (CallR.or (call_reprE hg hu) (CallR.or call_reprN (CallR.or call_reprB call_reprS)))
theorem im_reprX : ImpL K g ε dReprX (rrReprX K) := by
  intro α H h a x Q r ra w
  unfold dReprX at w
  cases e : dRepr a h with
  | ok d h' => rw [e] at w; exact .inl (im_repr α H h a x Q r ra (by rw [e]; exact w))
  | err z h' => rw [e] at w; exact im α H h a x Q r ra w
  | bad => rw [e] at w; exact im α H h a x Q r ra w
where
  im (α H h a x Q) (r : HRel K g α H h) (ra : RelDs K g α H a x) (w : WQ K g ε α H (dReprM a h) (Post K g α H Q)) : rrReprX K x H Q := by
    unfold dReprM at w
    have gen : ∀ {d : D} {v : V}, RelD K g α H d v → (∃ p, v = .ref p) → WQ K g ε α H (repE d h) (Post K g α H Q) → rrReprX K [v] H Q := by
      intro d v rd ⟨p, hp⟩ w
      subst hp
      unfold repE at w
      cases e : toPyE 12 d with
      | none => simp only [e] at w; exact w.elim
      | some pd =>
        simp only [e] at w
        obtain ⟨hb, w⟩ := WQ.iteP w
        obtain ⟨q1, q2⟩ := toPyE_ok 12 d _ pd rd e
        have := PyData.shown_le_bulk 1921 (by decide) pd q2.lv
        exact .inr (.inl ⟨p, pd, rfl, q1, q2.sh, Nat.le_trans q2.dp (by decide), by rw [sizeLine_eq]; omega, Post.now w r (.str _)⟩)
    cases ra with
    | nil => exact w.elim
    | cons rd rr =>
      cases rr with
      | cons _ _ => cases rd <;> exact w.elim
      | nil =>
        cases rd with
        | non => exact .inr (.inr (.inl ⟨rfl, Post.now w r (.str _)⟩))
        | bl b => exact .inr (.inr (.inr (.inl ⟨b, rfl, Post.now w r (.str _)⟩)))
        | str z =>
          obtain ⟨hz, w⟩ := WQ.iteP w
          exact .inr (.inr (.inr (.inr ⟨z, rfl, line_of hz, Post.now w r (.str _)⟩)))
        | tup hp rs => exact gen (.tup hp rs) ⟨_, rfl⟩ w
        | edic hp => exact gen (.edic hp) ⟨_, rfl⟩ w
        | _ => exact w.elim
theorem reprX_of {ds : List D} {d : D} {h h' : Hh} (e : dRepr ds h = .ok d h') : dReprX ds h = .ok d h' := by unfold dReprX; rw [e]
end
end L2.FE
namespace L2.FE
open PySem PySem.Spec PyProof.Rows
section
variable {X : Cx} {g : GG}
end
theorem us0 {P : List Value → Prop} {us : List Value} (hl : us.length = 0) (h : P []) : P us := by cases us with | nil => exact h | cons _ _ => cases hl
theorem us1 {P : List Value → Prop} {us : List Value} (hl : us.length = 1) (h : ∀ a, P [a]) : P us := by cases us with | nil => cases hl | cons a us => exact us0 (P := fun us => P (a :: us)) (Nat.succ.inj hl) (h a)
theorem us2 {P : List Value → Prop} {us : List Value} (hl : us.length = 2) (h : ∀ a b, P [a, b]) : P us := by cases us with | nil => cases hl | cons a us => exact us1 (P := fun us => P (a :: us)) (Nat.succ.inj hl) (h a)
theorem us3 {P : List Value → Prop} {us : List Value} (hl : us.length = 3) (h : ∀ a b c, P [a, b, c]) : P us := by cases us with | nil => cases hl | cons a us => exact us2 (P := fun us => P (a :: us)) (Nat.succ.inj hl) (h a)
theorem bnd1 {fd : FuncData} {ps : List Str} {us : List Value} (hl : us.length = 1) (h : ∀ a : Value, bindArgs fd ⟨[a], []⟩ = pure (ps.zip [a])) : bindArgs fd ⟨us, []⟩ = pure (ps.zip us) := us1 (P := fun us => bindArgs fd ⟨us, []⟩ = pure (ps.zip us)) hl h
theorem bnd2 {fd : FuncData} {ps : List Str} {us : List Value} (hl : us.length = 2) (h : ∀ a b : Value, bindArgs fd ⟨[a, b], []⟩ = pure (ps.zip [a, b])) : bindArgs fd ⟨us, []⟩ = pure (ps.zip us) := us2 (P := fun us => bindArgs fd ⟨us, []⟩ = pure (ps.zip us)) hl h
theorem bnd3 {fd : FuncData} {ps : List Str} {us : List Value} (hl : us.length = 3) (h : ∀ a b c : Value, bindArgs fd ⟨[a, b, c], []⟩ = pure (ps.zip [a, b, c])) : bindArgs fd ⟨us, []⟩ = pure (ps.zip us) := us3 (P := fun us => bindArgs fd ⟨us, []⟩ = pure (ps.zip us)) hl h
end L2.FE
namespace L2.FE
open PySem PySem.Spec PyProof.Rows
section
variable {X : Cx} {g : GG} {ε : EE} {K : PySem.W.Frag}
end
end L2.FE
namespace L2.FE
open PySem PySem.Spec PyProof.Rows
section
variable {X : Cx} {g : GG} {ε : EE} {K : PySem.W.Frag}
end
end L2.FE
namespace PySem
open Sem (wp)
section
variable {prog : Program} {w : World} {A : Around} {E : Value → Shared → Prop} {h : Heap} {g : Array GenState} {d : Drawn} {t : Nat} {os : OsState}
variable {nm q : Str} {C N : Addr} {bs bm bmB : List Value} {hdct : Bool} {sn : List Str} {sub : List Value} {ab : Bool} {col : Option Bool} {dd : Option Addr} {k0 k1 k2 k3 k5 : Option Value} {B newId initId : String}
theorem type_call_initT (F : ExcBaseFacts B newId initId bmB) (T : OwnTail h bmB bm) {mN : Str → Option Value} {rest : List Value} {fI : Addr} {oI : Obj} {Q : Fin → Shared → Prop}
    (hC : h.get? C = some (excClassObj nm q C N bs bm hdct sn sub ab col dd k0 k1 k2 k3 k5 newId)) (hn : h.Ns N mN) (hi : mN "__init__" = some (.ref fI)) (hfI : h.get? fI = some oI) (hfc : oI.cls = .type "function")
    (hq : ∀ h' e, Heap.MadeExcOf h h' e (.ref C) rest → e = h.objs.size + 1 → h'.objs.size = h.objs.size + 2 → wpAny (model prog w) A (call (.ref fI) (.ref e :: rest)) (fun r s' => r = .none ∧ Q (.done (.ret (.ref e))) s') E ⟨h', g, d, t, os⟩) (hrest : rest.length ≤ sizeLine) :
    wpAny (model prog w) A (Builtin.«type.__call__» ⟨.ref C :: rest, []⟩) Q E ⟨h, g, d, t, os⟩ := by
  repeat (first | with_reducible refine wpAny_loadPart_at hC ?_ | with_reducible refine wpAny_madeBy_exc hC ?_ | wp_step)
  refine codeAny_call_builtin_code (Code.quiet_builtin _ F.quiet) (wpAny_check_new_subT F T hC ?_)
  refine codeAny_exc_new_subT F T hC ?_ hrest
  show wpAny _ _ _ _ _ _
  have up : ∀ b o, h.get? b = some o → ((h.push { cls := .type "tuple", data := .seq rest.toArray }).push { cls := .ref C, data := .fields #[.ref h.objs.size, .none, .none, .none, .bool false, .none] }).get? b = some o := fun b o z => Heap.get?_push_of_some _ (Heap.get?_push_of_some _ z)
  have hC1 := up _ _ hC
  have hfI1 := up _ _ hfI
  have hn1 : ((h.push { cls := .type "tuple", data := .seq rest.toArray }).push { cls := .ref C, data := .fields #[.ref h.objs.size, .none, .none, .none, .bool false, .none] }).Ns N mN := hn.keeps up
  have hget : ((h.push { cls := .type "tuple", data := .seq rest.toArray }).push { cls := .ref C, data := .fields #[.ref h.objs.size, .none, .none, .none, .bool false, .none] }).get? (h.objs.size + 1) = some { cls := .ref C, data := .fields #[.ref h.objs.size, .none, .none, .none, .bool false, .none] } := by heap_get
  have hcC : (Value.ref C :: bm).contains (.ref C) = true := by simp
  have T1 := T.keeps up
  unfold isInstance
  repeat (first | with_reducible refine wpAny_loadPart_at hget ?_ | (with_reducible refine wpAny_isSubtype_exc hC1 ?_; rw [hcC]) | wp_step)
  show wpAny _ _ (typeLookup (.ref C) _) _ _ _
  refine wpAny_typeLookup_tail hC1 hn1 T1 F.mroIs F.init.lookup ?_
  rw [hi]
  refine wpAny_holding (wpAny_bind ?_)
  unfold bindSpecial
  refine wpAny_bind (wpAny_typeOf (T := "function") ⟨_, hfI1, hfc⟩ ?_)
  rw [if_pos (by decide)]
  refine wpAny_pure (wpAny_bind (wpAny_mono (hq _ (h.objs.size + 1) ⟨up, Heap.get?_none_of_le (Nat.le_succ _), h.objs.size, hget, Heap.get?_none_of_le (Nat.le_refl _), ?_⟩ rfl (by rw [Heap.size_push, Heap.size_push])) (fun r s' hr => ?_) fun _ _ x => x))
  · exact Heap.get?_push_of_some _ (Heap.get?_push_at rfl rfl)
  · obtain ⟨rfl, hQ⟩ := hr
    wp_walk
    exact hQ
theorem call_initT (F : ExcBaseFacts B newId initId bmB) (T : OwnTail h bmB bm) {mN : Str → Option Value} {rest : List Value} {fI : Addr} {oI : Obj} {Q : Value → Shared → Prop}
    (hC : h.get? C = some (excClassObj nm q C N bs bm hdct sn sub ab col dd k0 k1 k2 k3 k5 newId)) (hn : h.Ns N mN) (hi : mN "__init__" = some (.ref fI)) (hfI : h.get? fI = some oI) (hfc : oI.cls = .type "function")
    (hq : ∀ h' e, Heap.MadeExcOf h h' e (.ref C) rest → e = h.objs.size + 1 → h'.objs.size = h.objs.size + 2 → wpAny (model prog w) (A.under (.builtin "type.__call__" ⟨.ref C :: rest, []⟩)) (call (.ref fI) (.ref e :: rest)) (fun r s' => r = .none ∧ Q (.ref e) s') E ⟨h', g, d, t, os⟩) (hrest : rest.length ≤ sizeLine) :
    wpAny (model prog w) A (call (.ref C) rest) Q E ⟨h, g, d, t, os⟩ := by
  have f1 := tc_lookup
  have f2 := tc_bind (.ref C)
  have hT : (⟨h, g, d, t, os⟩ : Shared).TypeIs (.ref C) "type" := ⟨_, hC, rfl⟩
  refine wpAny_call (codeAny_of_tree ?_)
  show wpAny _ _ (callAny (.ref C) _) _ _ _
  repeat (any_goals (first | assumption | with_reducible refine wpAny_loadPart_at hC ?_ | wp_step))
  refine ⟨rfl, ?_⟩
  refine codeAny_call_builtin_at (Code.quiet_builtin _ (by decide +kernel)) entry_typeCall (wpAny_check_type_call_sub hC (type_call_initT (hrest := hrest) F T hC hn hi hfI hfc fun h' e hm he hs => ?_))
  exact hq h' e hm he hs
end
end PySem
namespace PySem.W
open PySem PySem.Calls PyProof.Rows PySem.Spec Builtin Builtin.ObjectAttr
noncomputable abbrev bmVE : List Value := [.type "ValueError", .type "Exception", .type "BaseException", .type "object"]
noncomputable def isRefV : Value → Bool
  | .ref _ => true
  | _ => false
noncomputable def tailV (l : List Value) : Bool := l.dropWhile isRefV == bmVE
theorem tailV_cases {l : List Value} (e : tailV l = true) : l = bmVE ∨ ∃ c r, l = .ref c :: r ∧ tailV r = true := by
  cases l with
  | nil => cases e
  | cons a r =>
    by_cases h : isRefV a = true
    · cases a with
      | ref c => exact .inr ⟨c, r, rfl, by unfold tailV at e ⊢; rw [List.dropWhile_cons_of_pos h] at e; exact e⟩
      | _ => cases h
    · unfold tailV at e
      rw [List.dropWhile_cons_of_neg h] at e
      exact .inl (beq_iff_eq.mp e)
theorem refuse_tailV (self : Value) : ∀ (n : Nat) {l : List Value}, l.length ≤ n → tailV l = true → refuseLoop self "__setattr__" l = pure ()
  | 0, l, hl, e => by
    have : l = [] := List.eq_nil_of_length_eq_zero (by omega)
    subst this; cases e
  | n + 1, l, hl, e => by
    rcases tailV_cases e with rfl | ⟨c, r, rfl, e'⟩
    · exact PySem.F.store_ValueError.passes self
    · rw [refuseLoop_ref]; exact refuse_tailV self n (by simp at hl; omega) e'
theorem tailV_has : ∀ (n : Nat) {l : List Value}, l.length ≤ n → tailV l = true → l.contains (.type "object") = true
  | 0, l, hl, e => by
    have : l = [] := List.eq_nil_of_length_eq_zero (by omega)
    subst this; cases e
  | n + 1, l, hl, e => by
    rcases tailV_cases e with rfl | ⟨c, r, rfl, e'⟩
    · simp
    · rw [List.contains_cons, tailV_has n (by simp at hl; omega) e', Bool.or_true]
noncomputable def excOver (K : Frag) (C : Addr) : Bool := (clsIn K C).any fun cd => tailV cd.mro
section
variable {K : Frag} {prog : Program} {w : World} {A : Around} {R : Result → Shared → Prop} {s : Shared} {x C : Addr}
theorem osa_openE {ox : Obj} {od : Option Obj} {name : Str} {tk : Tok} {v : Value} (X : K.In s.heap) (I : InstAt s.heap x ox C od) (hp : excOver K C = true) (ht : takerIn K C name = some none)
    (h : ∀ b, wpAny (model prog w) A.in1 (storeInOwnDict (.ref x) (.ref C) (.str name tk) name v b)
      (fun fin s' => match fin with | .done f => R (.ok f) s' | .again c' => c'.quiet = true ∧ codeAny (model prog w) A c' R s') (fun e s' => R (.error e) s') s) :
    codeAny (model prog w) A (.call (.builtin "object.__setattr__") ⟨[.ref x, .str name tk, v], []⟩) R s := by
  have SF := PySem.F.store_object
  obtain ⟨cd, hc, ho⟩ := any_some hp
  have ne : cd.mro.isEmpty = false := by cases q : cd.mro with | nil => rw [q] at ho; cases ho | cons _ _ => rfl
  have sub : Looks (model prog w) s.heap (isInstance (.ref x) (.type "object")) true := I.type.andThen (looks_mroIn X (by unfold mroIn; rw [hc, Option.bind_some, if_neg (by rw [ne]; decide), tailV_has _ (Nat.le_refl _) ho]))
  refine codeAny_call_builtin SF.slot.plain SF.entry (@check_slot (model prog w) _ _ s "object.__setattr__" "object" "__setattr__" (.ref x) [.str name tk, v] [] _ SF.kind SF.split sub (SF.args (.ref x) (.str name tk) v) ?_)
  obtain ⟨attr, ha, hr⟩ := Option.bind_eq_some_iff.mp ht
  have hm : Looks (model prog w) s.heap (mroOf (.ref C)) cd.mro := (looks_clsIn X hc).andThen .now
  have L3 : Looks (model prog w) s.heap (storeTaker? attr) none := by
    cases attr with
    | none => exact .now
    | some a =>
      obtain ⟨b, hb, hz⟩ := Option.map_eq_some_iff.mp hr
      refine (looks_takesIn X hb).andThen ?_
      cases b with
      | true => cases hz
      | false => exact .now
  rw [osa_eq, refuse_eq]
  refine wpAny_bind (wpAny_bind (I.type.here (wpAny_bind (hm.here ?_))))
  rw [refuse_tailV _ _ (Nat.le_refl _) ho]
  refine wpAny_pure (wpAny_bind (I.type.here (wpAny_bind ((looks_findIn X ha).here (wpAny_bind (L3.here ?_))))))
  exact h _
theorem set_exc0 {E : Value → Shared → Prop} {ws : Array Value} {name : Str} {v : Value} {Q : Unit → Shared → Prop} (X : K.In s.heap) (hx : s.heap.get? x = some { cls := .ref C, data := .fields ws })
    (hs : findIn K (.ref C) "__setattr__" = some (some (.builtin "object.__setattr__"))) (hp : excOver K C = true) (ht : takerIn K C name = some none) (hh : hasDictIn K C = true)
    (h : ∀ h', h'.get? x = some { cls := .ref C, dict := some s.heap.objs.size, data := .fields ws } → h'.Ns1 s.heap.objs.size (fun y => if y = name then some v else none) →
      (∀ b o, b ≠ x → s.heap.get? b = some o → h'.get? b = some o) → ∀ t', Q () { s with heap := h', toks := t' }) :
    wpAny (model prog w) A (setAttr (.ref x) name v) Q E s := by
  have I : InstAt s.heap x { cls := .ref C, data := .fields ws } C none := ⟨hx, rfl, rfl, True.intro⟩
  refine set_plain X I hs (osa_openE (s := { s with toks := s.toks + 1 }) X I hp ht fun b => ?_)
  obtain ⟨cd, hc, hd'⟩ := any_some hh
  refine wpAny_bind (wpAny_pure (wpAny_bind (wpAny_bind (wpAny_loadPart hx (wpAny_bind (Looks.here (s := { s with toks := s.toks + 1 }) (looks_clsIn X hc) ?_))))))
  rw [hd']
  have hx1 : (s.heap.push { cls := .type "dict", data := .dict #[] }).get? x = some { cls := .ref C, data := .fields ws } := Heap.get?_push_of_some _ hx
  have hxs : x ≠ s.heap.objs.size := Nat.ne_of_lt (Heap.lt_size hx)
  refine wpAny_bind (wpAny_alloc' ?_)
  refine wpAny_bind (wpAny_update' hx1 ?_)
  refine wpAny_pure ?_
  have hgd : ((s.heap.push { cls := .type "dict", data := .dict #[] }).update x fun o => { cls := o.cls, dict := some s.heap.objs.size, data := o.data, slots := o.slots }).get? s.heap.objs.size = some { cls := .type "dict", data := .dict #[] } :=
    (Heap.get?_update_ne _ _ _ _ hxs.symm).trans (Heap.get?_push_at rfl rfl)
  have hnd : ((s.heap.push { cls := .type "dict", data := .dict #[] }).update x fun o => { cls := o.cls, dict := some s.heap.objs.size, data := o.data, slots := o.slots }).Ns s.heap.objs.size (fun _ => none) :=
    ⟨_, #[], _, hgd, rfl, fun e he => absurd he (by simp), fun _ => rfl⟩
  show wpAny _ _ (storeInDict s.heap.objs.size (.str name s.toks) name v) _ _ _
  unfold storeInDict newKeyGuard
  refine wpAny_bind (wpAny_pure (wpAny_bind (wpAny_nsSet1 (Heap.Ns1.of_empty hnd) fun h' hn' hs' => ?_)))
  obtain ⟨oD, esD, epD, hoD, hdD, hcD⟩ := hn'.count (PySem.Within.cons name v PySem.Within.nil)
  refine wpAny_bind (wpAny_lookBehind hoD (by rw [hdD]; exact pastItsLine_dict (Nat.le_trans hcD (by rw [List.length_cons, List.length_nil, sizeLine_eq]; omega))) ?_)
  refine wpAny_pure (h h' ?_ ?_ (fun b o hb z => ?_) _)
  · refine (hs'.2 x hxs).trans ?_
    exact Heap.get?_update_self _ hx1 rfl
  · obtain ⟨o', es, ep, e1, e2, e3, eu, e4⟩ := hn'
    exact ⟨o', es, ep, e1, e2, e3, eu, fun y => by rw [e4 y]⟩
  · exact (hs'.2 b (Nat.ne_of_lt (Heap.lt_size z))).trans ((Heap.get?_update_ne _ _ _ _ hb).trans (Heap.get?_push_of_some _ z))
theorem set_exc1 {E : Value → Shared → Prop} {ws : Array Value} {dx : Addr} {mA : Str → Option Value} {ns : List Str} {name : Str} {v : Value} {Q : Unit → Shared → Prop} (X : K.In s.heap) (hx : s.heap.get? x = some { cls := .ref C, dict := some dx, data := .fields ws }) (hne : dx ≠ x) (hn : s.heap.Ns1 dx mA) (hw : PySem.Within mA ns) (hsz : ns.length ≤ 1000)
    (hs : findIn K (.ref C) "__setattr__" = some (some (.builtin "object.__setattr__"))) (hp : excOver K C = true) (ht : takerIn K C name = some none) (hh : hasDictIn K C = true)
    (h : ∀ h', h'.get? x = some { cls := .ref C, dict := some dx, data := .fields ws } → h'.Ns1 dx (fun y => if y = name then some v else mA y) →
      (∀ b o, b ≠ dx → s.heap.get? b = some o → h'.get? b = some o) → ∀ t', Q () { s with heap := h', toks := t' }) :
    wpAny (model prog w) A (setAttr (.ref x) name v) Q E s := by
  obtain ⟨od, _, _, hod, _⟩ := id hn
  have I : InstAt s.heap x { cls := .ref C, dict := some dx, data := .fields ws } C (some od) := ⟨hx, rfl, rfl, hod⟩
  refine set_plain X I hs (osa_openE (s := { s with toks := s.toks + 1 }) X I hp ht fun b => ?_)
  obtain ⟨cd, hc, hd'⟩ := any_some hh
  refine wpAny_bind (wpAny_pure (wpAny_bind (wpAny_bind (wpAny_loadPart hx (wpAny_bind (Looks.here (s := { s with toks := s.toks + 1 }) (looks_clsIn X hc) ?_))))))
  rw [hd']
  refine wpAny_pure (a := some dx) (wpAny_bind (wpAny_pure (wpAny_bind ?_)))
  refine wpAny_nsSet1 (s := { s with toks := s.toks + 1 }) hn fun h' hn' hs' => ?_
  obtain ⟨oD, esD, epD, hoD, hdD, hcD⟩ := hn'.count (PySem.Within.cons name v hw)
  refine wpAny_bind (wpAny_lookBehind hoD (by rw [hdD]; exact pastItsLine_dict (Nat.le_trans hcD (by rw [List.length_cons, sizeLine_eq]; omega))) ?_)
  exact wpAny_pure (h h' ((hs'.2 x hne.symm).trans hx) hn' (fun b o hb z => (hs'.2 b hb).trans z) _)
end
end PySem.W
namespace PySem
open Sem (wp)
section
variable {M : Model} {A : Around} {E : Value → Shared → Prop} {env : Env}
variable {nm q : Str} {C N : Addr} {bs bm : List Value} {hdct : Bool} {sn : List Str} {sub : List Value} {ab : Bool} {col : Option Bool} {dd : Option Addr} {k0 k1 k2 k3 k5 : Option Value} {newId : String}
theorem raiseStmt_made {s : Shared} {x : Sem Value} {Q : Flow → Shared → Prop} (hbase : bm.contains (.type "BaseException") = true) (hh : A.handled = none)
    (h : wpAny M A x (fun v s₁ => ∃ e oe, v = .ref e ∧ s₁.heap.get? C = some (excClassObj nm q C N bs bm hdct sn sub ab col dd k0 k1 k2 k3 k5 newId) ∧ s₁.heap.get? e = some oe ∧ oe.cls = .ref C ∧ (∃ ws, oe.data = .fields ws ∧ ws[1]? = some .none) ∧ E (.ref e) s₁) E s) :
    wpAny M A (raiseStmt env (some x) none) Q E s := by
  have hcB : (Value.ref C :: bm).contains (.type "BaseException") = true := by rw [List.contains_cons, hbase, Bool.or_true]
  unfold raiseStmt
  refine wpAny_bind (wpAny_mono h (fun v s₁ h₁ => ?_) fun _ _ x => x)
  obtain ⟨e, ⟨ec, ed, eda, esl⟩, rfl, hC, he, hcl, ⟨ws, hda, hw1⟩, hE⟩ := h₁
  dsimp only at hcl hda
  subst hcl hda
  obtain ⟨hp, g, d, tk, os⟩ := s₁
  repeat (first | with_reducible refine wpAny_loadPart_at he ?_ | with_reducible refine wpAny_loadPart_at hC ?_ | (with_reducible refine wpAny_isSubtype_exc hC ?_; rw [hcB]) | wp_step)
  rw [hw1]
  refine wpAny_pure ?_
  rw [if_neg (by decide)]
  refine wpAny_pure ?_
  exact wpAny_raiseNew_none hh hE
end
section
variable {prog : Program} {w : World} {A : Around} {E : Value → Shared → Prop} {s : Shared} {env : Env}
variable {nm q : Str} {C N : Addr} {bs bm bmB : List Value} {hdct : Bool} {sn : List Str} {sub : List Value} {ab : Bool} {col : Option Bool} {dd : Option Addr} {k0 k1 k2 k3 k5 : Option Value} {newId : String}
theorem Raise_call {x : Str} {np cpos pos : Pos} {args : List Expr} {Q : Flow → Shared → Prop}
    (hbase : bm.contains (.type "BaseException") = true) (hh : A.handled = none) (hplain : (backTo cpos (starEach args env)).any (·.1) = false)
    (h : wpAny (model prog w) A (eval (.Name x np) env) (fun f s₁ => f = .ref C ∧ wpAny (model prog w) A (evalArgs (.ref C) true (backTo cpos (starEach args env)) [])
      (fun a s₂ => a.kw = [] ∧ s₂.heap.get? C = some (excClassObj nm q C N bs bm hdct sn sub ab col dd k0 k1 k2 k3 k5 newId) ∧
        wpAny (model prog w) A (call (.ref C) a.pos) (fun v s₃ => s₃.heap.get? C = some (excClassObj nm q C N bs bm hdct sn sub ab col dd k0 k1 k2 k3 k5 newId) ∧ ∃ e oe, v = .ref e ∧ s₃.heap.get? e = some oe ∧ oe.cls = .ref C ∧ (∃ ws, oe.data = .fields ws ∧ ws[1]? = some .none) ∧ E (.ref e) s₃) E s₂) E s₁) E s) :
    wpAny (model prog w) A (exec (.Raise (some (.Call (.Name x np) args [] cpos)) none pos) env) Q E s := by
  rw [arm_exec_Raise]
  first
    | refine wpAny_bind (wpAny_standAt (raiseStmt_made (C := C) (nm := nm) (q := q) (N := N) (bs := bs) (bm := bm) (hdct := hdct) (sn := sn) (sub := sub) (ab := ab) (col := col) (dd := dd) (k0 := k0) (k1 := k1) (k2 := k2) (k3 := k3) (k5 := k5) (newId := newId) hbase hh (wpAny_bind (wpAny_mono (wpAny_Call_ofName (wpAny_mono h (fun f s₁ h₁ => ?_) fun _ _ x => x)) (fun v s₃ h₃ => wpAny_bind (wpAny_standAt (wpAny_pure h₃))) fun _ _ x => x))))
    | (simp only [evalOpt, Option.map]; refine wpAny_bind (wpAny_standAt (raiseStmt_made (C := C) (nm := nm) (q := q) (N := N) (bs := bs) (bm := bm) (hdct := hdct) (sn := sn) (sub := sub) (ab := ab) (col := col) (dd := dd) (k0 := k0) (k1 := k1) (k2 := k2) (k3 := k3) (k5 := k5) (newId := newId) hbase hh (wpAny_bind (wpAny_mono (wpAny_Call_ofName (wpAny_mono h (fun f s₁ h₁ => ?_) fun _ _ x => x)) (fun v s₃ h₃ => wpAny_bind (wpAny_standAt (wpAny_pure h₃))) fun _ _ x => x)))))
  obtain ⟨rfl, h₁⟩ := h₁
  unfold callWith
  refine wpAny_bind (wpAny_holding (wpAny_mono h₁ (fun a s₂ h₂ => wpAny_bind (wpAny_standAt ?_)) fun _ _ x => x))
  obtain ⟨apos, akw⟩ := a
  obtain ⟨hkw, hC, h₂⟩ := h₂
  obtain rfl : akw = [] := hkw
  obtain ⟨hp, g, d, tk, os⟩ := s₂
  simp only [hplain]
  refine wpAny_bind (wpAny_keeperOf_exc hC ?_)
  refine wpAny_bind (wpAny_mono h₂ (fun v s₃ h₃ => wpAny_bind (wpAny_holding (wpAny_point (wpAny_pure ?_)))) fun _ _ x => x)
  obtain ⟨hC3, e, oe, rfl, z1, z2, z3, z4⟩ := h₃
  exact ⟨e, oe, rfl, hC3, z1, z2, z3, z4⟩
end
end PySem
namespace L2
open PySem PySem.Spec PyProof.Rows PySem.W
theorem ns_some_of {K : PySem.W.Frag} {h : Heap} {N : Addr} {mg : Str → Option Value} {n : Str} {v : Value} (X : K.In h) (G : h.Ns N mg) (e : nsIn K N n = some (some v)) : mg n = some v := by
  obtain ⟨o, es, ep, ho, hd, _, hf⟩ := G
  unfold nsIn at e
  split at e
  · rename_i c d es' n' sl q
    have := X _ _ q
    rw [ho] at this
    cases this
    cases hd
    split at e
    · rename_i en he
      cases e
      rw [← hf]
      unfold nsFind findBy
      rw [← Array.find?_toList, he]
      rfl
    · split at e <;> cases e
  · cases e
noncomputable def excInI (K : PySem.W.Frag) (C fI : Addr) : Bool := match K.lookup C with
  | some ⟨.type "type", _, .cls cd, sl⟩ => (match cd.mro, sl.toList with
    | .ref C' :: bm, [_, _, _, _, some (.builtin n), _] => C' == C && n == "ValueError.__new__" && !cd.hasDel && tailIn K bmV bm && nsOkIn K cd.ns && nsIn K cd.ns "__init__" == some (some (.ref fI))
    | _, _ => false)
  | _ => false
theorem cls_objI {K : PySem.W.Frag} {h : Heap} {C fI : Addr} (X : K.In h) (q : excInI K C fI = true) :
    ∃ bm N nm q' bs hdct sn sub ab col dd k0 k1 k2 k3 k5 mN, h.get? C = some (excClassObj nm q' C N bs bm hdct sn sub ab col dd k0 k1 k2 k3 k5 "ValueError.__new__") ∧ h.Ns N mN ∧ mN "__init__" = some (.ref fI) ∧ OwnTail h bmV bm := by
  unfold excInI at q
  split at q
  · rename_i dd cd sl ho
    split at q
    · rename_i C' bm k0 k1 k2 k3 n k5 hm hs
      simp only [Bool.and_eq_true, beq_iff_eq, Bool.not_eq_true'] at q
      obtain ⟨⟨⟨⟨⟨rfl, rfl⟩, hdel⟩, ht⟩, hok⟩, hni⟩ := q
      obtain ⟨nm, bs, mro, ns, qn, hd, sn, sub, ab, col, del⟩ := cd
      dsimp only at hm hdel hok hni
      subst hm hdel
      obtain rfl : sl = #[k0, k1, k2, k3, some (.builtin "ValueError.__new__"), k5] := by
        obtain ⟨l⟩ := sl
        simp only at hs
        rw [hs]
      exact ⟨bm, ns, nm, qn, bs, hd, sn, sub, ab, col, dd, k0, k1, k2, k3, k5, _, X _ _ ho, .of_isNs (isNs_of_in X hok), ns_some_of X (.of_isNs (isNs_of_in X hok)) hni, tail_of_in X ht⟩
    · cases q
  · cases q
inductive InitB : List Stmt → List Str → Prop
  | nil : InitB [] []
  | cons {f : Str} {p1 p2 p3 p4 : Pos} {r : List Stmt} {fs : List Str} : (f == ("__debug__" : Str)) = false → InitB r fs → InitB (.Assign [.Attribute (.Name "self" p1) f p2] (.Name f p3) p4 :: r) (f :: fs)
noncomputable def initS : Stmt → Stmt
  | .ClassDef _ _ _ (st :: _) .. => st
  | st => st
structure ClsI (K : PySem.W.Frag) (x : Str) (cst : Stmt) (C : Addr) (fs : List Str) : Prop where
  ex : ∃ fI fd qual, excInI K C fI = true ∧ Fun K "__init__" qual (initS cst) fI fd ∧ Binds K fd ("self" :: fs) [] ∧ typeIn K (.ref fI) = some (.type "function")
  sc : FnScope ("self" :: fs) ("self" :: fs) (defScope (initS cst))
  loc : ∀ y ∈ ("self" : Str) :: fs, (defScope (initS cst)).names.lookup y = some .local
  body : InitB (defBody (initS cst)) fs
  sa : findIn K (.ref C) "__setattr__" = some (some (.builtin "object.__setattr__"))
  ov : excOver K C = true
  tk : ∀ f ∈ fs, takerIn K C f = some none
  hd : hasDictIn K C = true
  ne : fs ≠ []
section
variable {K : PySem.W.Frag} {prog : Program} {w : World} {A : Around} {E : Value → Shared → Prop} {C : Addr} {env : Env} {m : Str → Option Value} {e : Addr} {ws : Array Value}
theorem ld_local {s : Shared} {y : Str} {p : Pos} {v : Value} {Q : Value → Shared → Prop} (hk : env.scope.kind = .function) (hl : env.kindOf y = some .local) (hn : s.heap.Ns env.locals m) (hv : m y = some v) (hd : (y == ("__debug__" : Str)) = false) (h : Q v s) : wpAny (model prog w) A (eval (.Name y p) env) Q E s :=
  wpAny_Name (wpAny_loadName_local hk hl hn hv h) hd
theorem ns_keep {h h' : Heap} {a : Addr} {m : Str → Option Value} (n : h.Ns a m) (k : ∀ o, h.get? a = some o → h'.get? a = some o) : h'.Ns a m := let ⟨o, es, ep, q, r⟩ := n; ⟨o, es, ep, k o q, r⟩
theorem init_rest (hk : env.scope.kind = .function) (hls : env.kindOf "self" = some .local) (sa : findIn K (.ref C) "__setattr__" = some (some (.builtin "object.__setattr__"))) (ov : excOver K C = true) (hd : hasDictIn K C = true) {dx : Addr} (hms : m "self" = some (.ref e)) (hne : dx ≠ e) (hLe : env.locals ≠ e) (hLd : env.locals ≠ dx) :
    ∀ {body : List Stmt} {fs : List Str} (_ : InitB body fs) (_ : ∀ f ∈ fs, takerIn K C f = some none ∧ env.kindOf f = some .local) {us : List Value} (_ : us.length = fs.length) (_ : ∀ (i : Nat) (f : Str) (u : Value), fs[i]? = some f → us[i]? = some u → m f = some u) {mA : Str → Option Value} {ns : List Str} (_ : PySem.Within mA ns) (_ : ns.length + fs.length ≤ 1000) {s : Shared} {Q : Flow → Shared → Prop}
      (_ : K.In s.heap) (_ : ∀ a o, K.lookup a = some o → a ≠ dx) (_ : s.heap.get? e = some { cls := .ref C, dict := some dx, data := .fields ws }) (_ : s.heap.Ns1 dx mA) (_ : s.heap.Ns env.locals m)
      (_ : ∀ h', h'.get? e = some { cls := .ref C, dict := some dx, data := .fields ws } → h'.Ns1 dx ((fs.zip us).foldl (fun mA (p : Str × Value) y => if y = p.1 then some p.2 else mA y) mA) → (∀ b o, b ≠ dx → s.heap.get? b = some o → h'.get? b = some o) → ∀ t', Q .next { s with heap := h', toks := t' }),
      wpAny (model prog w) A (execs body env) Q E s
  | _, _, .nil, _, us, _, _, mA, ns, _, _, s, Q, X, _, hx, hn, _, h => wpAny_execs_nil (h s.heap hx hn (fun _ _ _ z => z) s.toks)
  | _, _, .cons (f := f) (fs := fs) hdb ib, hf, [], hl, _, mA, ns, _, _, s, Q, _, _, _, _, _, _ => by cases hl
  | _, _, .cons (f := f) (fs := fs) hdb ib, hf, u :: us, hl, hm, mA, ns, hw, hz, s, Q, X, hK, hx, hn, hL, h => by
    refine wpAny_execs_cons (plainObj_wpAny_Assign_Attribute ?_ rfl)
    refine ld_local hk (hf f (by simp)).2 hL (hm 0 f u rfl rfl) hdb (ld_local hk hls hL hms (by decide) ?_)
    refine set_exc1 X hx hne hn hw (by simp at hz; omega) sa ov (hf f (by simp)).1 hd fun h1 q1 q2 q3 t1 => ?_
    refine init_rest hk hls sa ov hd hms hne hLe hLd ib (fun y hy => hf y (by simp [hy])) (us := us) (by simpa using hl) (fun i y v a b => hm (i + 1) y v a b) (PySem.Within.cons f u hw) (by simp at hz ⊢; omega) (s := { s with heap := h1, toks := t1 })
      (fun a o z => q3 a o (hK a o z) (X a o z)) hK q1 q2 (ns_keep hL fun o z => q3 _ o hLd z) fun h' r1 r2 r3 t' => ?_
    exact h h' r1 r2 (fun b o hb z => r3 b o hb (q3 b o hb z)) t'
end
end L2
namespace L2
open PySem PySem.Spec PyProof.Rows PySem.W
noncomputable abbrev mkM (ps : List (Str × Value)) : Str → Option Value := ps.foldl (fun mA (p : Str × Value) y => if y = p.1 then some p.2 else mA y) fun _ => none
noncomputable abbrev ws0 (t : Addr) : Array Value := #[.ref t, .none, .none, .none, .bool false, .none]
theorem make_exc {K : PySem.W.Frag} {prog : Program} {w : World} {A : Around} {E : Value → Shared → Prop} {x : Str} {cst : Stmt} {C : Addr} {fs : List Str} {s : Shared} {us : List Value} {Q : Value → Shared → Prop} {k : Nat} (ci : ClsI K x cst C fs) (X : K.In s.heap) (lim : s.heap.NoLimit) (hr : Room (k + 2) A) (hl : us.length = fs.length) (hz : fs.length ≤ 1000)
    (h : ∀ h' e dx t t', (∀ b o, s.heap.get? b = some o → h'.get? b = some o) → s.heap.objs.size ≤ e → s.heap.objs.size ≤ dx → dx ≠ e → h'.get? e = some { cls := .ref C, dict := some dx, data := .fields (ws0 t) } → h'.Ns1 dx (mkM (fs.zip us)) → Q (.ref e) { s with heap := h', toks := t' }) :
    wpAny (model prog w) A (call (.ref C) us) Q E s := by
  obtain ⟨fI, fd, qual, hex, F, hb, hty⟩ := ci.ex
  obtain ⟨bm, N, nm, q', bs, hdct, sn, sub, ab, col, dd, k0, k1, k2, k3, k5, mN, hC, hN, hi, T⟩ := cls_objI X hex
  obtain ⟨oc, od, kV, doc, pm, an, cdv, ct, osl, rfl, lk, hcd⟩ := F.ex
  have hfc : oc = .type "function" := by
    have z : (K.lookup fI).map (·.cls) = some (.type "function") := hty
    rw [lk] at z
    exact Option.some.inj z
  obtain ⟨h0, g, d, t, os⟩ := s
  have S := ci.sc
  have lim2 : us.length ≤ sizeLine := by rw [sizeLine_eq]; omega
  refine call_initT (Q := Q) (F := PySem.F.excBase_ValueError) T hC hN hi (X _ _ lk) hfc (fun h1 e me hee hsz => ?_) lim2
  have X1 : K.In h1 := X.keeps me.keeps
  dsimp only at hee hsz
  obtain ⟨t0, he, htn, _⟩ := me.there
  have hkind : ∀ y ∈ (("self" : Str) :: fs).zip (Value.ref e :: us), (defScope (initS cst)).names.lookup y.1 = some .local ∨ ((defScope (initS cst)).names.lookup y.1 = some .cell ∧ ((cellsFrom (h1.objs.size + 1) (defScope (initS cst)).names []).lookup y.1).isSome = true) := fun ⟨n, v⟩ hy => .inl (ci.loc n (List.of_mem_zip hy).1)
  have hbb := hb ⟨h1, g, d, t, os⟩ (Value.ref e :: us) X1 (by simp [hl])
  rw [List.append_nil] at hbb
  refine wpAny_call (codeAny_call_function (hr.make C us []).depth (X1 _ _ lk) rfl S.co S.gen rfl (codeRec_of X1 hcd) (hbb _ _ _ _ ?_))
  refine wpAny_newFunctionEnv_cells S.kind hkind fun env henv s1 x1 => ?_
  subst henv
  refine ⟨(lim.keeps me.keeps).keeps x1.toInCall.keep, codeAny_func ?_⟩
  have ks : ∀ b o, h1.get? b = some o → s1.heap.get? b = some o := x1.toInCall.keep
  have X2 : K.In s1.heap := X1.keeps ks
  have he1 := ks _ _ he
  have hL : s1.heap.Ns h1.objs.size (bindL (envOfC qual (defScope (initS cst)) h1.objs.size fI cdv).kindOf ((("self" : Str) :: fs).zip (Value.ref e :: us)) (fun _ => none)) := x1.toInCall.ns
  obtain ⟨hp1, tk1, rfl⟩ := x1.toInCall.same
  have kindL : ∀ y ∈ ("self" : Str) :: fs, (envOfC qual (defScope (initS cst)) h1.objs.size fI cdv).kindOf y = some .local := ci.loc
  have hms : bindL (envOfC qual (defScope (initS cst)) h1.objs.size fI cdv).kindOf ((("self" : Str) :: fs).zip (Value.ref e :: us)) (fun _ => none) "self" = some (.ref e) := bindL_get (i := 0) S.nd rfl rfl (kindL _ (by simp))
  have hmf : ∀ (i : Nat) (f : Str) (u : Value), fs[i]? = some f → us[i]? = some u → bindL (envOfC qual (defScope (initS cst)) h1.objs.size fI cdv).kindOf ((("self" : Str) :: fs).zip (Value.ref e :: us)) (fun _ => none) f = some u := fun i f u a b =>
    bindL_get (i := i + 1) S.nd (by simpa using a) (by simpa using b) (kindL f (by have := List.mem_of_getElem? a; simp [this]))
  generalize bindL (envOfC qual (defScope (initS cst)) h1.objs.size fI cdv).kindOf ((("self" : Str) :: fs).zip (Value.ref e :: us)) (fun _ => none) = m at hms hmf hL
  have hLe : h1.objs.size ≠ e := Nat.ne_of_gt (Heap.lt_size he)
  have hse : h0.objs.size ≤ e := by rw [hee]; exact Nat.le_succ _
  have ib := ci.body
  have tkf := ci.tk
  obtain ⟨f, fs, rfl⟩ : ∃ f fs', fs = f :: fs' := by
    cases fs with
    | nil => exact absurd rfl ci.ne
    | cons f r => exact ⟨f, r, rfl⟩
  obtain ⟨u, us, rfl⟩ : ∃ u us', us = u :: us' := by
    cases us with
    | nil => cases hl
    | cons u r => exact ⟨u, r, rfl⟩
  generalize defBody (initS cst) = body at ib ⊢
  cases ib with
  | cons hdb ib =>
    refine wpAny_execs_cons (plainObj_wpAny_Assign_Attribute ?_ rfl)
    refine ld_local S.kind (kindL f (by simp)) hL (hmf 0 f u rfl rfl) hdb (ld_local S.kind (kindL _ (by simp)) hL hms (by decide) ?_)
    refine set_exc0 X2 he1 ci.sa ci.ov (tkf f (by simp)) ci.hd fun h2 q1 q2 q3 t2 => ?_
    have hLk : ∀ o, hp1.get? h1.objs.size = some o → h2.get? h1.objs.size = some o := fun o z => q3 _ o hLe z
    have lt1 : h1.objs.size < hp1.objs.size := let ⟨o, _, _, q, _⟩ := hL; Heap.lt_size q
    refine init_rest (e := e) S.kind (kindL _ (by simp)) ci.sa ci.ov ci.hd (dx := hp1.objs.size) hms (Nat.ne_of_gt (Heap.lt_size he1)) hLe (Nat.ne_of_lt lt1) ib (fun y hy => ⟨tkf y (by simp [hy]), kindL y (by simp [hy])⟩) (us := us) (by simpa using hl) (fun i y v a b => hmf (i + 1) y v a b) (ns := [f]) (PySem.Within.cons f u PySem.Within.nil) (by simp at hz ⊢; omega) (s := { heap := h2, gens := g, drawn := d, toks := t2, os := os })
      (fun a o z => q3 a o (fun z2 => ?_) (X2 a o z)) (fun a o z => Nat.ne_of_lt (Heap.lt_size (X2 a o z))) q1 q2 (ns_keep hL hLk) fun h3 r1 r2 r3 t3 => ?_
    · exact absurd (z2 ▸ Heap.lt_size (X a o z) : e < h0.objs.size) (Nat.not_lt_of_le hse)
    · refine ⟨rfl, h h3 e hp1.objs.size t0 t3 (fun b o z => r3 b o (Nat.ne_of_lt (Heap.lt_size (ks _ _ (me.keeps _ _ z)))) (q3 b o ?_ (ks _ _ (me.keeps _ _ z)))) hse ?_ (Nat.ne_of_gt (Heap.lt_size he1)) r1 r2⟩
      · rintro rfl; have := me.new; rw [this] at z; cases z
      · dsimp only; omega
end L2
namespace L2
open PySem PySem.Spec PyProof.Rows PySem.W
theorem mkM_go (y : Str) : ∀ (ps : List (Str × Value)) (mA : Str → Option Value), (ps.map (·.1)).Nodup → (ps.foldl (fun mA (p : Str × Value) y => if y = p.1 then some p.2 else mA y) mA) y = (match ps.lookup y with | some v => some v | none => mA y)
  | [], mA, _ => rfl
  | (f, v) :: r, mA, nd => by
    rw [List.foldl_cons, mkM_go y r _ (List.nodup_cons.mp nd).2]
    by_cases h : y = f
    · subst h
      have : r.lookup y = none := by
        cases q : r.lookup y with
        | none => rfl
        | some w => exact absurd (List.mem_map.mpr ⟨_, PySem.mem_of_lookup q, rfl⟩) (List.nodup_cons.mp nd).1
      simp [this, List.lookup]
    · have hb : (y == f) = false := by simpa using h
      simp [List.lookup, hb, h]
theorem lookup_rel : ∀ {fs : List Str} {is : List Int} {us : List Value}, Vals (is.map V.int) us → ∀ y, RelO (((fs.zip is).map fun x => (x.1, V.int x.2)).lookup y) ((fs.zip us).lookup y)
  | [], _, _, _, y => True.intro
  | f :: fs, [], us, r, y => by cases r; exact True.intro
  | f :: fs, i :: is, _, .cons a r, y => by
    simp only [List.zip_cons_cons, List.map_cons, List.lookup]
    cases h : y == f with
    | true => exact a
    | false => exact lookup_rel r y
theorem flows_made {X : Cx} {E : XK} {pins : List (Addr × Obj)} {σ : St} {H : Hp} {s : Shared} {e dx : Addr} {h' : Heap} {C : Value} {oe od : Obj} {ws : Array Value} {fs : List (Str × V)} {t' : Nat} (p : Plain X) (fl : Flows X E) (I : Inv X pins σ H s) (k : ∀ b o, s.heap.get? b = some o → h'.get? b = some o)
    (he : s.heap.objs.size ≤ e) (hdx : s.heap.objs.size ≤ dx) (ne : dx ≠ e) (q1 : h'.get? e = some oe) (q2 : oe.cls = C) (q3 : oe.dict = some dx) (q4 : oe.data = .fields ws) (q5 : ws[1]? = some .none) (new : ObjOk X.prog X.w (upd H dx (.frz od (.xd fs))) h' dx (.frz od (.xd fs)))
    (q : E C (some dx) (upd H dx (.frz od (.xd fs)))) : X.xe (.ref e) { s with heap := h', toks := t' } := by
  have I1 : Inv X pins σ (upd H dx (.frz od (.xd fs))) { s with heap := h', toks := t' } := I.laid k hdx new
  have fr := I1.stack
  have nfr : ∀ b, b ∈ frs X.stack → upd H dx (.frz od (.xd fs)) b = none := I1.stkFree
  have hHe : upd H dx (.frz od (.xd fs)) e = none := by rw [upd_ne (Ne.symm ne)]; exact I.hok.fresh he
  refine fl _ _ ⟨σ, _, PySem.W.hideAll h' (e :: frs X.stack), e, C, some dx, rfl, I1.drop, .inl ⟨fun b o z => PySem.W.of_hideAll _ z, PySem.W.hideAll_none _ List.mem_cons_self, ?_, oe, ws, q1, q2, q3, q4, q5⟩, ⟨fun b o z => ?_, fun b o e' n hb => ?_⟩, fun p' hp => ?_, q⟩
  · exact PySem.W.funFrames_hide fr fun env he' b hb => List.mem_cons_of_mem _ (List.mem_filterMap.mpr ⟨env, he', hb⟩)
  · obtain ⟨u, hu⟩ := obj_at (I1.hok b o z)
    refine ⟨u, PySem.W.hideAll_get _ hu fun hm => ?_⟩
    rcases List.mem_cons.mp hm with rfl | hm
    · rw [hHe] at z; cases z
    · rw [nfr b hm] at z; cases z
  · have hx : b ∉ X.ex := by rw [p.ex]; simp
    refine PySem.W.hideAll_get _ (I1.base.keep b o e' n hb hx) fun z => ?_
    rcases List.mem_cons.mp z with rfl | z
    · exact absurd (Heap.lt_size (I.base.keep b o e' n hb hx)) (Nat.not_lt_of_le he)
    · rcases List.mem_cons.mp (I.stkSub b z) with rfl | z
      · exact absurd (Heap.lt_size e') (Nat.not_lt_of_le I.ok.above)
      · exact hb z
  · obtain ⟨r1, r2, r3, r4, r5⟩ := I.pin p' (List.mem_append_left _ hp)
    refine PySem.W.hideAll_get _ (k _ _ r1) fun z => ?_
    rcases List.mem_cons.mp z with z | z
    · rw [← z] at he; exact absurd (Heap.lt_size r1) (Nat.not_lt_of_le he)
    · rcases List.mem_cons.mp (I.stkSub _ z) with z | z
      · exact r3 z
      · exact r4 z
end L2
namespace L2.FE
open PySem PySem.Spec PyProof.Rows
noncomputable def cRaiseI (x : Str) (fs : List Str) (mr : MA) : MS := fun env h => (mr env h).bind fun ds h1 => match intsOf ds with
  | some is => if is.length = fs.length then .err ⟨x, fs.zip is⟩ h1 else .bad
  | none => .bad
section
variable {X : Cx} {g : GG} {E : XK}
theorem zip_keys : ∀ {fs : List Str} {us : List Value}, us.length = fs.length → (fs.zip us).map (·.1) = fs
  | [], _, _ => rfl
  | f :: fs, [], h => by cases h
  | f :: fs, u :: us, h => by rw [List.zip_cons_cons, List.map_cons, zip_keys (by simpa using h)]
theorem s_raiseI {x : Str} {cst : Stmt} {C : Addr} {fs : List Str} {np cpos pos : Pos} {e : Expr} {es : List Expr} {mr : MA} {k : Nat} (fl : Flows X E) (pl : Plain X) (hc : X.calm = true) (hg : Gl X x) (hm : X.mg x = some (.ref C)) (hgx : g x = some C) (ci : ClsI X.K x cst C fs) (hr : Room (k + 2) X.A) (hz : fs.length ≤ 1000)
    (ha : PA X (e :: es) (tMA X.K g (εX g E) mr)) (hdb : (x == ("__debug__" : Str)) = false := by decide) (he : starEach (e :: es) X.env = (false, eval e X.env) :: starEach es X.env := by rfl) (hpl : (backTo cpos (starEach es X.env)).any (·.1) = false := by rfl) :
    PS X (.Raise (some (.Call (.Name x np) (e :: es) [] cpos)) none pos) (tMS X.K g (εX g E) (cRaiseI x fs mr)) := by
  intro pins s σ H D I ⟨α, env, h, sr, w⟩
  obtain ⟨fI, fd, qual, hex, _⟩ := ci.ex
  obtain ⟨tl, N, nm, q', bs, hdct, sn, sub, ab, col, dd, k0, k1, k2, k3, k5, mN, hC', hN, hni, T⟩ := cls_objI I.kIn hex
  refine PySem.Raise_call (C := C) (nm := nm) (q := q') (N := N) (bs := bs) (bm := tl) (hdct := hdct) (sn := sn) (sub := sub) (ab := ab) (col := col) (dd := dd) (k0 := k0) (k1 := k1) (k2 := k2) (k3 := k3) (k5 := k5) (newId := "ValueError.__new__") (T.hasType PySem.F.excBase_ValueError.hasBase) (I.ok.hd hc) (by rw [he]; show (false || (backTo cpos (starEach es X.env)).any (·.1)) = false; rw [hpl]; rfl) (ld_glob I hg hm ⟨rfl, ?_⟩ hdb)
  have A0 := ha cpos pins s σ H (fun vs H1 => ∃ is : List Int, vs = is.map V.int ∧ is.length = fs.length ∧ ∀ dx od, H1 dx = none → E (.ref C) (some dx) (upd H1 dx (.frz od (.xd ((fs.zip is).map fun x => (x.1, V.int x.2)))))) I ⟨α, env, h, sr, w.bind.mono fun ds h1 eq w1 vs H1 α1 e1 hr1 r1 => by
    cases ei : intsOf ds with
    | none => simp only [ei] at w1; exact w1.elim
    | some is =>
      simp only [ei] at w1
      by_cases hl : is.length = fs.length
      · rw [if_pos hl] at w1
        have := intsOf_some ei
        subst this
        refine ⟨is, r1.intsV, hl, fun dx od hn => ?_⟩
        exact w1 α1 _ (e1.trans (Ext.fresh hn)) (hr1.grow hn) C (some dx) hgx (.inr ⟨dx, od, rfl, upd_same⟩)
      · rw [if_neg hl] at w1; exact w1.elim⟩
  rw [he] at A0 ⊢
  refine PySem.Calls.evalArgs_plain (wpAny_mono A0 (fun us s1 ⟨vs, H1, I1, rv, is, ev, hl, fin⟩ => ?_) fun _ _ z => z)
  subst ev
  have hul : us.length = fs.length := by rw [← rv.length, List.length_map]; exact hl
  obtain ⟨tl', N', nm', q'', bs', hdct', sn', sub', ab', col', dd', k0', k1', k2', k3', k5', mN', hC1, _⟩ := cls_objI I1.kIn hex
  have hCC : s1.heap.get? C = some (excClassObj nm q' C N bs tl hdct sn sub ab col dd k0 k1 k2 k3 k5 "ValueError.__new__") := by
    have a := I.kIn
    have b := I1.kIn
    unfold excInI at hex
    split at hex
    · rename_i dd2 cd2 sl2 ho
      have x1 := a _ _ ho
      have x2 := b _ _ ho
      rw [x2, ← x1]; exact hC'
    · cases hex
  refine ⟨rfl, hCC, ?_⟩
  have limS : s1.heap.NoLimit := I1.nolimit
  refine make_exc ci I1.kIn limS hr hul hz fun h' e' dx t t' kp he' hdx' ne' q1 q2 => ?_
  refine ⟨kp _ _ hCC, e', _, rfl, q1, rfl, ⟨_, rfl, rfl⟩, ?_⟩
  obtain ⟨od, es', ep', ho', _⟩ := id q2
  refine flows_made (C := .ref C) (od := od) (fs := (fs.zip is).map fun x => (x.1, V.int x.2)) pl fl I1 kp he' hdx' ne' q1 rfl rfl rfl rfl ⟨ho', _, q2, fun y => ?_⟩ (fin dx od (I1.hok.fresh hdx'))
  have nd : ((fs.zip us).map (·.1)).Nodup := by rw [zip_keys hul]; exact (List.nodup_cons.mp ci.sc.nd).2
  show RelO _ (mkM (fs.zip us) y)
  rw [show mkM (fs.zip us) y = _ from mkM_go y _ _ nd]
  have := lookup_rel (fs := fs) rv y
  cases q : (fs.zip us).lookup y with
  | none => rw [q] at this; exact this
  | some v => rw [q] at this; exact this
end
end L2.FE
namespace PySem.W
open PySem PySem.Calls PyProof.Rows PySem.Spec Builtin Builtin.ObjectAttr
theorem tailV_exc : ∀ (n : Nat) {l : List Value}, l.length ≤ n → tailV l = true → l.contains (.type "BaseException") = true
  | 0, l, hl, e => by
    have : l = [] := List.eq_nil_of_length_eq_zero (by omega)
    subst this; cases e
  | n + 1, l, hl, e => by
    rcases tailV_cases e with rfl | ⟨c, r, rfl, e'⟩
    · simp
    · rw [List.contains_cons, tailV_exc n (by simp at hl; omega) e', Bool.or_true]
section
variable {K : Frag} {prog : Program} {w : World} {A : Around} {E : Value → Shared → Prop} {s : Shared} {x C dx : Addr} {ox : Obj} {mA : Str → Option Value} {name : Str} {v : Value}
theorem exc_entry {tk : Tok} {Q : Fin → Shared → Prop} (X : K.In s.heap) (hx : s.heap.get? x = some ox) (hc : ox.cls = .ref C) (hf : ∃ ws, ox.data = .fields ws) (hd : ox.dict = some dx) (hn : s.heap.Ns dx mA) (hv : mA name = some v)
    (hna : findIn K (.ref C) name = some none) (hh : hasDictIn K C = true) (h : Q (.done (.ret v)) s) : wpAny (model prog w) A (Builtin.«object.__getattribute__» ⟨[.ref x, .str name tk], []⟩) Q E s := by
  obtain ⟨cd, hcd, hd'⟩ := any_some hh
  obtain ⟨oc, od, oda, osl⟩ := ox
  obtain ⟨ws, hf⟩ := hf
  dsimp only at hc hd hf
  subst hc hd hf
  have I : InstAt s.heap x ⟨.ref C, some dx, .fields ws, osl⟩ C (some hn.choose) := ⟨hx, rfl, rfl, hn.choose_spec.choose_spec.choose_spec.1⟩
  have e : Builtin.«object.__getattribute__» ⟨[.ref x, .str name tk], []⟩ = (typeOf (.ref x) >>= fun tp => find (.ref x) tp name >>= fun f => match f with
      | .value v => (ret v : Sem Fin)
      | .bind g a => bindTo g a (.ref x) tp
      | .missing => do
        if tp == .type "module" then
          if ← isOpaqueModuleObj (.ref x) then
            let byTheModulesOwnEntry := match (← stack).drop 1 with
              | (.builtin "module.__getattribute__" ⟨m :: _, _⟩, _) :: _ => m == .ref x
              | _ => false
            if !byTheModulesOwnEntry then unsupported "thirdparty:object.__getattribute__:a-miss-on-an-opaque-module"
        if tp == .type "type" then
          if let some key ← opaqueClassAbove (.ref x) then unsupported s!"thirdparty:{key.toString}.{name.toString}:object.__getattribute__-misses-on-an-opaque-class"
        noSuchAttribute (.ref x) name) := by rfl
  rw [e]
  refine wpAny_bind (I.type.here ?_)
  refine wpAny_bind ?_
  unfold find
  refine wpAny_bind ((looks_findIn X hna).here ?_)
  refine wpAny_bind (wpAny_pure (wpAny_bind (wpAny_pure ?_)))
  show wpAny _ _ (ownThenClass (.ref x) name none none) _ _ _
  unfold ownThenClass inOwnDict
  refine wpAny_bind (wpAny_bind ?_)
  show wpAny _ _ (loadPart x (some headPart) >>= _) _ _ _
  refine wpAny_bind (wpAny_loadPart hx ?_)
  show wpAny _ _ (instanceDict x false) _ _ _
  unfold instanceDict
  refine wpAny_bind (wpAny_loadPart hx ?_)
  refine wpAny_bind ?_
  refine (looks_clsIn X hcd).here ?_
  rw [hd']
  refine wpAny_pure (a := some dx) ?_
  show wpAny _ _ (nsGet dx name) _ _ _
  refine wpAny_nsGet hn ?_
  rw [hv]
  refine wpAny_bind (wpAny_rule (wpAny_pure ?_))
  exact wpAny_pure h
theorem get_exc {b : Bool} {Q : Value → Shared → Prop} (X : K.In s.heap) (hx : s.heap.get? x = some ox) (hc : ox.cls = .ref C) (hf : ∃ ws, ox.data = .fields ws) (hd : ox.dict = some dx) (hn : s.heap.Ns dx mA) (hv : mA name = some v)
    (hga : findIn K (.ref C) "__getattribute__" = some (some (.builtin "BaseException.__getattribute__"))) (hgh : findIn K (.ref C) "__getattr__" = some none) (hna : findIn K (.ref C) name = some none) (ov : excOver K C = true) (hh : hasDictIn K C = true) (hv2 : handedOut v = pure v)
    (h : Q v { s with toks := s.toks + 1 }) : wpAny (model prog w) A (getAttr (.ref x) name b) Q E s := by
  have FB := PySem.F.attrBase_ValueError
  have I : InstAt s.heap x ox C (some hn.choose) := ⟨hx, hc, by obtain ⟨ws, e⟩ := hf; unfold notCls; rw [e], by rw [hd]; exact hn.choose_spec.choose_spec.choose_spec.1⟩
  obtain ⟨cd, hcd, ho⟩ := any_some ov
  have ne : cd.mro.isEmpty = false := by cases q : cd.mro with | nil => rw [q] at ho; cases ho | cons _ _ => rfl
  have sub : Looks (model prog w) s.heap (isInstance (.ref x) (.type "BaseException")) true := I.type.andThen (looks_mroIn X (by unfold mroIn; rw [hcd, Option.bind_some, if_neg (by rw [ne]; decide), tailV_exc _ (Nat.le_refl _) ho]))
  unfold getAttr getAttrBy
  refine wpAny_bind (wpAny_mkText (wpAny_holding (wpAny_bind (Looks.here (s := { s with toks := s.toks + 1 }) I.type (wpAny_bind (Looks.here (s := { s with toks := s.toks + 1 }) (looks_findIn X hga) ?_))))))
  dsimp only
  have hx2 : (Value.builtin "BaseException.__getattribute__" == Value.builtin "object.__getattribute__") = false := by decide +kernel
  rw [if_neg (by rw [hx2, Bool.and_false]; decide)]
  unfold getAttrByItsOwn
  refine wpAny_bind ?_
  show wpAny _ _ (typeLookup (.ref C) "__getattr__") _ _ _
  refine Looks.here (s := { s with toks := s.toks + 1 }) (looks_findIn X hgh) ?_
  refine wpAny_bind (wpAny_attempt (wpAny_holding ?_))
  have hcall : callGetattribute (.ref x) (.str name s.toks) (.builtin "BaseException.__getattribute__") b = boundAndCalled (.builtin "BaseException.__getattribute__") (.ref x) (.str name s.toks) := by cases b <;> rfl
  rw [hcall]
  unfold boundAndCalled
  refine wpAny_bind ?_
  rw [FB.ga.bind (.ref x)]
  refine wpAny_pure ?_
  have hk : builtinKind "BaseException.__getattribute__" = some .slot := by decide +kernel
  have hsplit : splitId "BaseException.__getattribute__" = some ("BaseException", "__getattribute__") := by decide +kernel
  refine wpAny_call (codeAny_call_builtin FB.ga.plain PySem.F.entry_bexc_ga (@check_slot (model prog w) _ _ { s with toks := s.toks + 1 } "BaseException.__getattribute__" "BaseException" "__getattribute__" (.ref x) [.str name s.toks] [] _ hk hsplit sub (PySem.F.args_bexc_ga (.ref x) (.str name s.toks)) ?_))
  refine exc_entry (s := { s with toks := s.toks + 1 }) X hx hc hf hd hn hv hna hh ?_
  show wpAny _ _ (handedOut v) _ _ _
  rw [hv2]
  exact wpAny_pure h
end
end PySem.W
namespace L2
open PySem PySem.Spec PyProof.Rows PySem.W
structure ClsR (K : PySem.W.Frag) (C : Addr) (f : Str) : Prop where
  ga : findIn K (.ref C) "__getattribute__" = some (some (.builtin "BaseException.__getattribute__"))
  gh : findIn K (.ref C) "__getattr__" = some none
  na : findIn K (.ref C) f = some none
  ov : excOver K C = true
  hd : hasDictIn K C = true
end L2
namespace L2.FE
open PySem PySem.Spec PyProof.Rows
noncomputable def dFld (c f : Str) : D → Hh → R D := fun d h => match d with
  | .exc c' fs => if c' = c then (match fs.lookup f with | some i => .ok (.int i) h | none => .bad) else .bad
  | _ => .bad
theorem lookup_ints : ∀ {fs : List (Str × Int)} {f : Str} {i : Int}, fs.lookup f = some i → (fs.map fun x => (x.1, V.int x.2)).lookup f = some (.int i)
  | [], f, i, h => by cases h
  | (y, j) :: fs, f, i, h => by
    simp only [List.map_cons, List.lookup] at h ⊢
    cases q : f == y with
    | true => rw [q] at h; cases h; rfl
    | false => rw [q] at h; exact lookup_ints h
section
variable {X : Cx} {g : GG} {ε : EE}
theorem se_fld {e : Expr} {c f : Str} {C : Addr} {pos : Pos} {m : ME} (he : PE X e (tM X.K g ε m)) (hgc : g c = some C) (cr : ClsR X.K C f) (hb : attributeBase e f X.env (eval e X.env) = eval e X.env := by rfl) : PE X (.Attribute e f pos) (tM X.K g ε (cUn (dFld c f) m)) := by
  intro pins s σ H Q I ⟨α, env, h, sr, w⟩
  have A0 := he pins s σ H (fun v H1 => ∃ (p dx : Addr) (o od : Obj) (i : Int) (fs : List (Str × Int)), v = .ref p ∧ H1 p = some (AtO p o) ∧ o.cls = .ref C ∧ (∃ vs, o.data = .fields vs) ∧ o.dict = some dx ∧ H1 dx = some (.frz od (.xd (fs.map fun x => (x.1, V.int x.2)))) ∧ fs.lookup f = some i ∧ Q (.int i) H1) I ⟨α, env, h, sr, w.bind.mono fun d h1 eq w1 v H1 α1 e1 hr1 r1 => by
    unfold dFld at w1
    cases r1 with
    | exc hg hp hcl hda hfs =>
      rename_i c' C' p o fs
      dsimp only at w1
      by_cases hc : c' = c
      · rw [if_pos hc] at w1
        subst hc
        rw [hgc] at hg; cases hg
        cases el : fs.lookup f with
        | none => rw [el] at w1; exact w1.elim
        | some i =>
          rw [el] at w1
          rcases hfs with ⟨_, rfl⟩ | ⟨dx, od, hd1, hd2⟩
          · cases el
          · exact ⟨p, dx, o, od, i, fs, rfl, hp, hcl, hda, hd1, hd2, el, w1 (.int i) H1 α1 e1 hr1 (.int i)⟩
      · rw [if_neg hc] at w1; exact w1.elim
    | _ => exact w1.elim⟩
  refine attr_of hb (thn A0 fun u s1 ⟨v, H1, I1, rv, p, dx, o, od, i, fs, ev, hp, hcl, hda, hd1, hd2, el, q⟩ => ?_)
  subst ev
  obtain rfl : u = Value.ref p := rv
  obtain ⟨ho, _⟩ := I1.hok p _ hp
  obtain ⟨hod, mA, hns, rel⟩ := I1.hok dx _ hd2
  have rl := rel f
  rw [lookup_ints el] at rl
  cases em : mA f with
  | none => rw [em] at rl; exact rl.elim
  | some u =>
    rw [em] at rl
    obtain ⟨t, rfl⟩ := rl
    exact PySem.W.get_exc I1.kIn ho hcl hda hd1 hns.ns em cr.ga cr.gh cr.na cr.ov cr.hd rfl ⟨.int i, H1, I1.tok _, ⟨t, rfl⟩, q⟩
end
end L2.FE
namespace L2
open PySem PySem.Spec PyProof.Rows PySem.W
noncomputable def CIs (K : PySem.W.Frag) (x : Str) (cst : Stmt) (fs : List Str) : Prop := ∃ C, nsIn K mainGlobals x = some (some (.ref C)) ∧ ClsI K x cst C fs ∧ ∀ f ∈ fs, ClsR K C f
noncomputable def ciOk (K : PySem.W.Frag) (C fI : Addr) (fs : List Str) : Bool := excInI K C fI && typeIn K (.ref fI) == some (.type "function") && findIn K (.ref C) "__setattr__" == some (some (.builtin "object.__setattr__")) && excOver K C && hasDictIn K C &&
  findIn K (.ref C) "__getattribute__" == some (some (.builtin "BaseException.__getattribute__")) && findIn K (.ref C) "__getattr__" == some none && fs.all fun f => takerIn K C f == some none && findIn K (.ref C) f == some none
noncomputable def CIm (K : PySem.W.Frag) (mg : Str → Option Value) (x : Str) (cst : Stmt) (fs : List Str) : Prop := ∃ C, mg x = some (.ref C) ∧ ClsI K x cst C fs ∧ ∀ f ∈ fs, ClsR K C f
theorem CIm.of {K : PySem.W.Frag} {h : Heap} {mg : Str → Option Value} {x : Str} {cst : Stmt} {fs : List Str} (X : K.In h) (G : h.Ns mainGlobals mg) (c : CIs K x cst fs) : CIm K mg x cst fs :=
  let ⟨C, a, b, d⟩ := c; ⟨C, mg_of X G a, b, d⟩
end L2
namespace L2.FE
open PySem PySem.Spec PyProof.Rows
section
variable {X : Cx} {g : GG} {E : XK}
theorem s_raiseM {x : Str} {cst : Stmt} {fs : List Str} {np cpos pos : Pos} {e : Expr} {es : List Expr} {mr : MA} {k : Nat} (fl : Flows X E) (pl : Plain X) (hc : X.calm = true) (hg : Gl X x) (cm : CIm X.K X.mg x cst fs) (hgo : g = gOf X.mg) (hr : Room (k + 2) X.A) (hz : fs.length ≤ 1000)
    (ha : PA X (e :: es) (tMA X.K g (εX g E) mr)) (hdb : (x == ("__debug__" : Str)) = false := by decide) (he : starEach (e :: es) X.env = (false, eval e X.env) :: starEach es X.env := by rfl) (hpl : (backTo cpos (starEach es X.env)).any (·.1) = false := by rfl) :
    PS X (.Raise (some (.Call (.Name x np) (e :: es) [] cpos)) none pos) (tMS X.K g (εX g E) (cRaiseI x fs mr)) := by
  obtain ⟨C, hm, ci, _⟩ := cm
  exact s_raiseI fl pl hc hg hm (by rw [hgo]; unfold gOf; rw [hm]) ci hr hz ha hdb he hpl
theorem se_fldM {ε : EE} {e : Expr} {c f : Str} {cst : Stmt} {fs : List Str} {pos : Pos} {m : ME} (he : PE X e (tM X.K g ε m)) (cm : CIm X.K X.mg c cst fs) (hgo : g = gOf X.mg) (hf : f ∈ fs) (hb : attributeBase e f X.env (eval e X.env) = eval e X.env := by rfl) : PE X (.Attribute e f pos) (tM X.K g ε (cUn (dFld c f) m)) := by
  obtain ⟨C, hm, _, cr⟩ := cm
  exact se_fld he (by rw [hgo]; unfold gOf; rw [hm]) (cr f hf) hb
end
end L2.FE
namespace L2
open PySem PySem.Spec PyProof.Rows
end L2
namespace L2.FE
open PySem PySem.Spec PyProof.Rows
section
variable {X : Cx} {g : GG}
end
end L2.FE
namespace L2
open PySem PySem.Spec PyProof.Rows PySem.W
theorem cis_mk2 {K : PySem.W.Frag} {x qual : Str} {cst : Stmt} {C fI : Addr} {fs : List Str} {oc : Value} {od an : Option Addr} {osl : Array (Option Value)} {kV doc pm cdv ct : Value} (a : nsIn K mainGlobals x = some (some (.ref C))) (_b : findIn K (.ref C) "__init__" = some (some (.ref fI)))
    (l : K.lookup fI = some ⟨oc, od, .func (fnOf "__init__" qual (defArgs (initS cst)) (defBody (initS cst)) (defScope (initS cst)) .none kV doc pm an cdv ct), osl⟩) (c : codeIn K cdv qual = true) (k : keepIn K (.ref fI) = true) (o : ciOk K C fI fs = true)
    (sc : FnScope ("self" :: fs) ("self" :: fs) (defScope (initS cst))) (loc : ∀ y ∈ ("self" : Str) :: fs, (defScope (initS cst)).names.lookup y = some .local) (body : InitB (defBody (initS cst)) fs)
    (bd : ∀ (kV doc pm : Value) (an : Option Addr) (cdv ct : Value) (us : List Value), us.length = (("self" : Str) :: fs).length → bindArgs (fnOf "__init__" qual (defArgs (initS cst)) (defBody (initS cst)) (defScope (initS cst)) .none kV doc pm an cdv ct) ⟨us, []⟩ = pure ((("self" : Str) :: fs).zip us)) (ne : fs ≠ []) : CIs K x cst fs := by
  unfold ciOk at o
  simp only [Bool.and_eq_true, beq_iff_eq, List.all_eq_true] at o
  obtain ⟨⟨⟨⟨⟨⟨⟨o1, o2⟩, o3⟩, o4⟩, o5⟩, o6⟩, o7⟩, o8⟩ := o
  have F : Fun K "__init__" qual (initS cst) fI _ := fun_mk l c k
  exact ⟨C, a, ⟨⟨fI, _, qual, o1, F, F.binds bd, o2⟩, sc, loc, body, o3, o4, fun f hf => (o8 f hf).1, o5, ne⟩, fun f hf => ⟨o6, o7, (o8 f hf).2, o4, o5⟩⟩
end L2
namespace L2.FE
open PySem PySem.Spec PyProof.Rows
section
variable {X : Cx} {g : GG} {ε : EE}
end
end L2.FE
namespace L2
open PySem PySem.Spec PyProof.Rows
inductive RdM (K : PySem.W.Frag) (H : Hp) : V → PyData → Prop
  | non : RdM K H .non .none
  | bl (b : Bool) : RdM K H (.bl b) (.bool b)
  | int (i : Int) : RdM K H (.int i) (.int i)
  | str (x : Str) : RdM K H (.str x) (.str x)
  | tup {a : Addr} {xs : List V} {ds : List PyData} (h : SqT K H a xs) (hl : xs.length = ds.length) (hx : ∀ (i : Nat) x d, xs[i]? = some x → ds[i]? = some d → RdM K H x d) : RdM K H (.ref a) (.tuple ds)
  | lst {a : Addr} {xs : List V} {ds : List PyData} (h : SqL K H a xs) (hl : xs.length = ds.length) (hx : ∀ (i : Nat) x d, xs[i]? = some x → ds[i]? = some d → RdM K H x d) : RdM K H (.ref a) (.list ds)
  | edic {a : Addr} {o : Obj} (h : H a = some (.frz o (.dK []))) : RdM K H (.ref a) (.dict [])
noncomputable def RK (P : Program) (w : World) (h : Heap) (u : Value) (d : PyData) : Prop := ∃ as, Reads h u d as ∧ (d.showable = true → d.shown.length ≤ sizeLine → ∃ bs, ReadAtMost h d.depth bs ∧ ReprK P w bs h d.depth u d.shown)
theorem RK.of {P : Program} {w : World} {h : Heap} {u : Value} {d : PyData} {as : List Addr} (r : Reads h u d as) (n : sysModules ∉ as) : RK P w h u d := ⟨as, r, fun hs hz => ReprK.of_reads r hs (fun _ => n) hz⟩
theorem rk_all {P : Program} {w : World} {h : Heap} : ∀ {us : List Value} {ds : List PyData}, us.length = ds.length → (∀ (i : Nat) u d, us[i]? = some u → ds[i]? = some d → RK P w h u d) →
    ∃ as, ReadsAll h us ds as ∧ (PyData.showableAll ds = true → (∀ t ∈ PyData.shownAll ds, t.length ≤ sizeLine) → ∃ bs, ReadAtMost h (PyData.depthAll ds) bs ∧ ReprAllK P w bs h (PyData.depthAll ds) us (PyData.shownAll ds))
  | [], [], _, _ => ⟨_, .nil, fun _ _ => ⟨[], (fun _ z => nomatch z), by rw [PyData.shownAll]; exact .nil⟩⟩
  | [], _ :: _, hl, _ => by simp at hl
  | _ :: _, [], hl, _ => by simp at hl
  | u :: us, d :: ds, hl, hx => by
    obtain ⟨as, r1, k1⟩ := hx 0 u d rfl rfl
    obtain ⟨bs, r2, k2⟩ := rk_all (P := P) (w := w) (us := us) (ds := ds) (by simpa using hl) fun i u d e1 e2 => hx (i + 1) u d (by simpa using e1) (by simpa using e2)
    refine ⟨_, .cons r1 r2, fun hs hz => ?_⟩
    rw [PyData.showableAll, Bool.and_eq_true] at hs
    rw [PyData.shownAll] at hz ⊢
    rw [PyData.depthAll]
    obtain ⟨b1, m1, q1⟩ := k1 hs.1 (hz _ List.mem_cons_self)
    obtain ⟨b2, m2, q2⟩ := k2 hs.2 fun t ht => hz t (List.mem_cons_of_mem _ ht)
    exact ⟨b1 ++ b2, (m1.mono (Nat.le_max_left _ _)).append (m2.mono (Nat.le_max_right _ _)), .cons ((q1.more fun b hb => List.mem_append_left _ hb).level_le (Nat.le_max_left _ _)) (q2.more_le (fun b hb => List.mem_append_right _ hb) (Nat.le_max_right _ _))⟩
section
variable {X : Cx}
theorem Inv.readsM {pins : List (Addr × Obj)} {σ : St} {H : Hp} {s : Shared} (I : Inv X pins σ H s) {x : V} {d : PyData} (r : RdM X.K H x d) : ∀ u, RelV x u → RK X.prog X.w s.heap u d := by
  induction r with
  | non => intro u ru; cases (show u = Value.none from ru); exact .of .none (by simp)
  | bl b => intro u ru; cases (show u = Value.bool b from ru); exact .of (.bool b) (by simp)
  | int i => intro u ru; obtain ⟨t, q⟩ := (show ∃ t, u = Value.int i t from ru); cases q; exact .of (.int i t) (by simp)
  | str y => intro u ru; obtain ⟨t, q⟩ := (show ∃ t, u = Value.str y t from ru); cases q; exact .of (.str y t) (by simp)
  | @tup a xs ds h hl hx ih =>
    intro u ru
    cases (show u = Value.ref a from ru)
    obtain ⟨its, rv, p, hz⟩ := I.tuple h
    obtain ⟨o, ho, hc, n, hd⟩ := p
    obtain ⟨as, ra, k⟩ := rk_all (P := X.prog) (w := X.w) (h := s.heap) (us := its) (ds := ds) (by rw [← rv.length, hl]) fun i u d e1 e2 => by
      obtain ⟨y, e3, ry⟩ := rv.get' e1
      exact ih i y d e3 e2 u ry
    have rr : Reads s.heap (.ref a) (.tuple ds) as := .tuple ho hc hd (by simpa using ra)
    refine ⟨_, rr, fun hs hz => ?_⟩
    rw [PyData.shown] at hz ⊢
    obtain ⟨bs, hb, hk⟩ := k (by rw [PyData.showable] at hs; exact hs) fun t ht => Nat.le_trans (tupleText_mem_le ht) hz
    have hna := not_mem_of_deeper rr (by rw [PyData.depth]; omega) hb
    refine ⟨a :: bs, ReadAtMost.cons rr (by rw [PyData.depth]; omega) hb, ?_⟩
    rw [PyData.depth]
    exact ReprK.tuple ho hc hd hna (by simpa using hk)
  | @lst a xs ds h hl hx ih =>
    intro u ru
    cases (show u = Value.ref a from ru)
    obtain ⟨its, rv, p, hz⟩ := I.list h
    obtain ⟨o, ho, hc, n, hd⟩ := p.isList
    obtain ⟨as, ra, k⟩ := rk_all (P := X.prog) (w := X.w) (h := s.heap) (us := its) (ds := ds) (by rw [← rv.length, hl]) fun i u d e1 e2 => by
      obtain ⟨y, e3, ry⟩ := rv.get' e1
      exact ih i y d e3 e2 u ry
    have rr : Reads s.heap (.ref a) (.list ds) _ := .list ho hc hd (by simpa using ra)
    refine ⟨_, rr, fun hs hz => ?_⟩
    rw [PyData.shown] at hz ⊢
    obtain ⟨bs, hb, hk⟩ := k (by rw [PyData.showable] at hs; exact hs) fun t ht => Nat.le_trans (listText_mem_le ht) hz
    have hna := not_mem_of_deeper rr (by rw [PyData.depth]; omega) hb
    refine ⟨a :: bs, ReadAtMost.cons rr (by rw [PyData.depth]; omega) hb, ?_⟩
    rw [PyData.depth]
    cases its with
    | nil =>
      cases ra
      rw [PyData.shownAll, listText_nil]
      exact ReprK.listEmpty ho hc hd
    | cons x l => exact ReprK.list ho hc hd hna (by simpa using hk.length_eq) fun i y e => hk.item i y (by simpa using e)
  | @edic a o h =>
    intro u ru
    obtain ⟨as, r, n⟩ := I.readsE (.edic h) u ru
    exact .of r n
theorem call_reprM (hg : X.A.guards = some []) (hu : X.A.units + 64 < cLine) : CallR X (.builtin "repr") (fun vs H Q => ∃ p xs d ds, vs = [.ref p] ∧ SqL X.K H p xs ∧ xs.length = (d :: ds).length ∧ (∀ (i : Nat) x e, xs[i]? = some x → (d :: ds)[i]? = some e → RdM X.K H x e) ∧ PyData.showableAll (d :: ds) = true ∧ PyData.depthAll (d :: ds) ≤ 60 ∧ (PyData.list (d :: ds)).shown.length ≤ sizeLine ∧ Q (.str (PyData.list (d :: ds)).shown) H) := by
  intro pins s σ H xs us Q I r h
  obtain ⟨a, xs, d, ds, rfl, sq, hl, hx, hs, hdp, hz, q⟩ := h
  obtain ⟨u, rfl, rx⟩ := vals1 r
  cases rx
  obtain ⟨its, rv, p, hz0⟩ := I.list sq
  obtain ⟨o, ho, hc, n, hd⟩ := p.isList
  obtain ⟨as, ra, k⟩ := rk_all (P := X.prog) (w := X.w) (h := s.heap) (us := its) (ds := d :: ds) (by rw [← rv.length, hl]) fun i u d e1 e2 => by
    obtain ⟨y, e3, ry⟩ := rv.get' e1
    exact I.readsM (hx i y d e3 e2) u ry
  have rr : Reads s.heap (.ref a) (.list (d :: ds)) _ := .list ho hc hd (by simpa using ra)
  rw [PyData.shown] at hz q
  obtain ⟨bs, hb, hk⟩ := k hs fun t ht => Nat.le_trans (listText_mem_le ht) hz
  have hna := not_mem_of_deeper rr (by rw [PyData.depth]; omega) hb
  cases its with
  | nil => cases ra
  | cons y l =>
    exact call_repr_slot (by omega) ⟨o, ho, hc⟩ PySem.F.slot_list_repr.toG (call_list_reprK ho hc hd hna (by simpa using hk.length_eq) (fun i y e => hk.item i y (by simpa using e)) hg (fun b _ => Clear.nil b) (by show X.A.units + 1 + (PyData.depthAll (d :: ds) + 1) < cLine; omega) (fun _ _ e => e) (fun h' u tk kp => ⟨_, _, rfl, ⟨.str _, H, I.kept kp, ⟨_, rfl⟩, q⟩⟩) hz)
end
end L2
namespace L2.FE
open PySem PySem.Spec PyProof.Rows
noncomputable def toPyM : Nat → D → Option PyData
  | 0, _ => none
  | k + 1, d => match d with
    | .non => some .none
    | .bl b => some (.bool b)
    | .int i => if sml i = true then some (.int i) else none
    | .str x => if x.cps.toList.all (fun c => decide (c < 16 ^ 8)) = true then some (.str x) else none
    | .tup ds => (toPys (toPyM k) ds).map .tuple
    | .frl ds => (toPys (toPyM k) ds).map .list
    | .edic => some (.dict [])
    | _ => none
section
variable {K : PySem.W.Frag} {g : GG} {α : List Addr} {H : Hp} {h : Hh} {X : Cx} {ε : EE}
theorem toPysM_ok {f : D → Option PyData} {k : Nat} (hf : ∀ d x p, RelD K g α H d x → f d = some p → RdM K H x p ∧ PyOkE k p) : ∀ {ds : List D} {vs : List V} {ps : List PyData}, RelDs K g α H ds vs → toPys f ds = some ps →
    PysOkE k ps ∧ vs.length = ps.length ∧ ∀ (i : Nat) x d, vs[i]? = some x → ps[i]? = some d → RdM K H x d
  | _, _, _, .nil, e => by
    cases e
    exact ⟨⟨by simp [PyData.showableAll], by simp [PyData.depthAll], by simp [PyData.leavesShortAll]⟩, rfl, fun i x d h => by simp at h⟩
  | _, _, _, .cons r t, e => by
    unfold toPys at e
    split at e
    · rename_i p ps h1 h2
      cases e
      obtain ⟨a1, a2⟩ := hf _ _ _ r h1
      obtain ⟨b1, b2, b3⟩ := toPysM_ok hf t h2
      refine ⟨⟨by rw [PyData.showableAll, a2.sh, b1.sh]; rfl, by rw [PyData.depthAll]; exact Nat.max_le.mpr ⟨a2.dp, b1.dp⟩, by rw [PyData.leavesShortAll, a2.lv, b1.lv]; rfl⟩, by simp [b2], fun i x d hx hd => ?_⟩
      cases i with
      | zero => simp at hx hd; subst hx hd; exact a1
      | succ i => exact b3 i x d (by simpa using hx) (by simpa using hd)
    · cases e
theorem toPyM_ok : ∀ (k : Nat) (d : D) (x : V) (p : PyData), RelD K g α H d x → toPyM k d = some p → RdM K H x p ∧ PyOkE k p
  | 0, _, _, _, _, e => by cases e
  | k + 1, d, x, p, rd, e => by
    unfold toPyM at e
    cases rd with
    | non => cases e; exact ⟨.non, by simp [PyData.showable], by simp [PyData.depth], by simp [PyData.leavesShort]⟩
    | bl b => cases e; exact ⟨.bl b, by simp [PyData.showable], by simp [PyData.depth], by simp [PyData.leavesShort]⟩
    | int i =>
      simp only at e
      split at e
      · rename_i hs
        cases e
        have hl : i.natAbs.log2 < 1920 := Nat.lt_trans (sml_log hs) (by decide)
        exact ⟨.int i, by simp [PyData.showable, hl], by simp [PyData.depth], by simp only [PyData.leavesShort, decide_eq_true_eq]; exact int_text_len_1921 hl⟩
      · cases e
    | str z =>
      simp only at e
      split at e
      · rename_i hs
        cases e
        exact ⟨.str z, by simp [PyData.showable], by simp [PyData.depth], by simpa only [PyData.leavesShort] using hs⟩
      · cases e
    | edic hp => cases e; exact ⟨.edic hp, by simp [PyData.showable, PyData.showableKv], by simp [PyData.depth, PyData.depthKv], by simp [PyData.leavesShort, PyData.leavesShortKv]⟩
    | tup hp rs =>
      simp only at e
      cases e1 : toPys (toPyM k) _ with
      | none => rw [e1] at e; cases e
      | some ps =>
        rw [e1] at e
        cases e
        obtain ⟨b1, b2, b3⟩ := toPysM_ok (fun d x p => toPyM_ok k d x p) rs e1
        exact ⟨.tup (SqT.of hp) b2 b3, by rw [PyData.showable]; exact b1.sh, by rw [PyData.depth]; exact Nat.succ_le_succ b1.dp, by rw [PyData.leavesShort]; exact b1.lv⟩
    | frl hp rs =>
      simp only at e
      cases e1 : toPys (toPyM k) _ with
      | none => rw [e1] at e; cases e
      | some ps =>
        rw [e1] at e
        cases e
        obtain ⟨b1, b2, b3⟩ := toPysM_ok (fun d x p => toPyM_ok k d x p) rs e1
        exact ⟨.lst hp.sq b2 b3, by rw [PyData.showable]; exact b1.sh, by rw [PyData.depth]; exact Nat.succ_le_succ b1.dp, by rw [PyData.leavesShort]; exact b1.lv⟩
    | _ => cases e
noncomputable def dReprL : List D → Hh → R D := fun ds h => match ds with
  | [.frl ds] => (match toPys (toPyM 12) ds with
    | some (p :: ps) => if PyData.bulk (.list (p :: ps)) ≤ 8000 then .ok (.str (PyData.list (p :: ps)).shown) h else .bad
    | _ => .bad)
  | _ => .bad
noncomputable abbrev rrReprL (K : PySem.W.Frag) : List V → Hp → VK → Prop := fun vs H Q => ∃ p xs d ds, vs = [.ref p] ∧ SqL K H p xs ∧ xs.length = (d :: ds).length ∧ (∀ (i : Nat) x e, xs[i]? = some x → (d :: ds)[i]? = some e → RdM K H x e) ∧ PyData.showableAll (d :: ds) = true ∧ PyData.depthAll (d :: ds) ≤ 60 ∧ (PyData.list (d :: ds)).shown.length ≤ sizeLine ∧ Q (.str (PyData.list (d :: ds)).shown) H
theorem im_reprL : ImpL K g ε dReprL (rrReprL K) := by
  intro α H h a x Q r ra w
  unfold dReprL at w
  cases ra with
  | nil => exact w.elim
  | cons rd rr =>
    cases rr with
    | cons _ _ => cases rd <;> exact w.elim
    | nil =>
      cases rd with
      | frl hp rs =>
        dsimp only at w
        cases e1 : toPys (toPyM 12) _ with
        | none => rw [e1] at w; exact w.elim
        | some l =>
          rw [e1] at w
          cases l with
          | nil => exact w.elim
          | cons p ps =>
            obtain ⟨hb, w⟩ := WQ.iteP w
            obtain ⟨b1, b2, b3⟩ := toPysM_ok (fun d x p => toPyM_ok 12 d x p) rs e1
            have := PyData.shown_le_bulk 1921 (by decide) (PyData.list (p :: ps)) (by rw [PyData.leavesShort]; exact b1.lv)
            exact ⟨_, _, p, ps, rfl, hp.sq, b2, b3, b1.sh, Nat.le_trans b1.dp (by decide), by rw [sizeLine_eq]; omega, Post.now w r (.str _)⟩
      | _ => exact w.elim
end
end L2.FE
namespace L2.FE
open PySem PySem.Spec PyProof.Rows
section
variable {P : Program} {w : World} {K : PySem.W.Frag} {mg : Str → Option Value} {base : Heap} {g : GG} {k n : Nat} {f : Addr} {fd : FuncData} {ps : List Str}
end
end L2.FE
namespace L2.Srt
open PySem PySem.W PyProof.Rows
section
variable {n : Nat} {key : Nat → Int}
structure Pm (n : Nat) (p : Array Nat) : Prop where
  size : p.size = n
  perm : p.Perm (List.range n).toArray
theorem Pm.lt {p : Array Nat} (h : Pm n p) {i : Nat} (hi : i < n) : p.getD i 0 < n := by
  have hi' : i < p.size := by rw [h.size]; exact hi
  have e : p.getD i 0 = p[i] := by simp [Array.getD, hi']
  rw [e]
  have := h.perm.mem_iff.mp (Array.getElem_mem hi')
  simpa using this
variable (inj : ∀ i j, i < n → j < n → key i = key j → i = j)
include inj
omit inj in
omit inj in
omit inj in
omit inj in
omit inj in
omit inj in
end
end L2.Srt
namespace L2.Srt
open PySem PySem.W PyProof.Rows PySem.Calls
section
variable {prog : Program} {w : World} {A : Around} {E : Value → Shared → Prop} {s : Shared} {a : Addr} {vs : List Value} {κ : SortKind}
end
end L2.Srt
namespace L2.Srt
open PySem PySem.W PyProof.Rows PySem.Calls
section
variable {prog : Program} {w : World} {A : Around} {E : Value → Shared → Prop} {s : Shared} {vs : List Value}
inductive Prs (h : Heap) : List Value → List (Int × Int) → Prop
  | nil : Prs h [] []
  | cons {a : Addr} {o : Obj} {k : Nat} {t u : Tok} {x y : Int} {vs : List Value} {ps : List (Int × Int)} : h.get? a = some o → o.cls = .type "tuple" → o.data = .seq #[.int x t, .int y u] k → Prs h vs ps → Prs h (.ref a :: vs) ((x, y) :: ps)
theorem Prs.len {h : Heap} {vs : List Value} {ps : List (Int × Int)} (r : Prs h vs ps) : vs.length = ps.length := by
  induction r with
  | nil => rfl
  | cons _ _ _ _ ih => simp [ih]
theorem Prs.at_ {h : Heap} {vs : List Value} {ps : List (Int × Int)} (r : Prs h vs ps) : ∀ {i : Nat}, i < ps.length → ∃ a o k t u, vs.getD i Value.none = .ref a ∧ h.get? a = some o ∧ o.data = .seq #[.int (ps.getD i (0, 0)).1 t, .int (ps.getD i (0, 0)).2 u] k := by
  induction r with
  | nil => intro i hi; simp at hi
  | @cons a o k t u x y vs ps ha hc hd r ih =>
    intro i hi
    cases i with
    | zero => exact ⟨a, o, k, t, u, rfl, ha, hd⟩
    | succ i =>
      obtain ⟨a', o', k', t', u', e1, e2, e3⟩ := ih (i := i) (by simpa using hi)
      exact ⟨a', o', k', t', u', by simpa using e1, e2, by simpa using e3⟩
end
end L2.Srt
namespace L2.Srt
open PySem PySem.W PyProof.Rows PySem.Calls
section
variable {prog : Program} {w : World} {A : Around} {E : Value → Shared → Prop} {s : Shared} {vs : List Value}
end
end L2.Srt
namespace L2
open PySem PySem.Spec PyProof.Rows L2.Srt
inductive PrV (K : PySem.W.Frag) (H : Hp) : List V → List (Int × Int) → Prop
  | nil : PrV K H [] []
  | cons {a : Addr} {x y : Int} {xs : List V} {ps : List (Int × Int)} : SqT K H a [.int x, .int y] → PrV K H xs ps → PrV K H (.ref a :: xs) ((x, y) :: ps)
section
variable {X : Cx}
theorem PrV.len {K : PySem.W.Frag} {H : Hp} {xs : List V} {ps : List (Int × Int)} (r : PrV K H xs ps) : xs.length = ps.length := by
  induction r with
  | nil => rfl
  | cons _ _ ih => simp [ih]
theorem Inv.prs {pins : List (Addr × Obj)} {σ : St} {H : Hp} {s : Shared} (I : Inv X pins σ H s) {xs : List V} {ps : List (Int × Int)} (r : PrV X.K H xs ps) : ∀ {us : List Value}, Vals xs us → Prs s.heap us ps := by
  induction r with
  | nil => intro us v; cases v; exact .nil
  | cons h _ ih =>
    intro us v
    cases v with
    | cons ru rv =>
      cases ru
      obtain ⟨its, rt, pl, hz⟩ := I.tuple h
      obtain ⟨o, ho, hc, n, hd⟩ := pl
      cases rt with
      | cons r1 rt => cases rt with
        | cons r2 rt =>
          cases rt
          obtain ⟨t1, rfl⟩ := r1
          obtain ⟨t2, rfl⟩ := r2
          exact .cons ho hc hd (ih rv)
end
end L2
namespace L2.FE
open PySem PySem.Spec PyProof.Rows L2.Srt
section
variable {X : Cx} {g : GG} {ε : EE} {K : PySem.W.Frag}
end
end L2.FE
namespace L2.Srt
open PySem PySem.W PyProof.Rows PySem.Calls
section
variable {prog : Program} {w : World} {A : Around} {E : Value → Shared → Prop} {s : Shared} {a : Addr} {vs : List Value}
end
end L2.Srt
namespace L2
open PySem PySem.Spec PyProof.Rows L2.Srt
section
variable {X : Cx}
end
end L2
namespace L2.FE
open PySem PySem.Spec PyProof.Rows L2.Srt
section
variable {X : Cx} {g : GG} {ε : EE} {K : PySem.W.Frag}
end
end L2.FE
namespace L2
open PySem PySem.Spec PyProof.Rows
section
variable {X : Cx}
end
end L2
namespace L2.FE
open PySem PySem.Spec PyProof.Rows
noncomputable def setOf (h : Hh) (n : Nat) : Option (List Int) := match h[n]? with
  | some (.set ns) => some ns
  | _ => none
section
variable {X : Cx} {g : GG} {ε : EE} {K : PySem.W.Frag}
theorem HRel.set {α : List Addr} {H : Hp} {h : Hh} {n : Nat} {p : Addr} {ns : List Int} (r : HRel K g α H h) (e : setOf h n = some ns) (hp : α[n]? = some p) : H p = some (.set (fun k => ns.any (· == k)) ns.length) := by
  unfold setOf at e
  cases eo : h[n]? with
  | none => rw [eo] at e; cases e
  | some o =>
    rw [eo] at e
    cases o with
    | set k => cases e; exact r.here n p _ hp eo
    | _ => cases e
end
section
variable {h : Hh} {env : En}
end
end L2.FE
namespace L2.FE
open PySem PySem.Spec PyProof.Rows
noncomputable def ditOf (h : Hh) (n : Nat) : Option (List (List Key × D)) := match h[n]? with
  | some (.dit kvs) => some kvs
  | _ => none
noncomputable abbrev PDT (K : PySem.W.Frag) (g : GG) (α : List Addr) (H : Hp) : List (List Key × D) → List (List Key × V) → Prop := Paired (fun (a : List Key × D) (b : List Key × V) => a.1 = b.1 ∧ RelD K g α H a.2 b.2)
section
variable {K : PySem.W.Frag} {g : GG} {α : List Addr} {H : Hp} {h : Hh}
theorem HRel.dit {n : Nat} {p : Addr} {kvs : List (List Key × D)} (r : HRel K g α H h) (e : ditOf h n = some kvs) (hp : α[n]? = some p) : ∃ kws, H p = some (.dT kws) ∧ PDT K g α H kvs kws := by
  unfold ditOf at e
  cases eo : h[n]? with
  | none => rw [eo] at e; cases e
  | some o =>
    rw [eo] at e
    cases o with
    | dit k => cases e; exact r.here n p _ hp eo
    | _ => cases e
theorem PDT.ext {α' : List Addr} {H' : Hp} {kvs : List (List Key × D)} {kws : List (List Key × V)} (e : Ext K α H α' H') (r : PDT K g α H kvs kws) : PDT K g α' H' kvs kws := Paired.mapE e.toEx0 r
theorem Post.dit {Q : VK} {kvs : List (List Key × D)} {kws : List (List Key × V)} {p : Addr} (w : Post K g α H Q (.ref h.length) (h ++ [.dit kvs])) (r : HRel K g α H h) (rs : PDT K g α H kvs kws) (hp : H p = none) : Q (.ref p) (upd H p (.dT kws)) := by
  have x := Ext.push (K := K) (α := α) (o := .dT kws) hp
  exact w _ _ _ x (r.push hp ⟨_, upd_same, rs.ext x⟩) (.ref (by rw [← r.len]; simp))
end
section
variable {X : Cx} {g : GG} {ε : EE} {o i e f : Expr} {mo mi me mf : ME} {pos : Pos}
end
end L2.FE
namespace L2
open PySem PySem.Spec PyProof.Rows
noncomputable abbrev CompW2 (J : It) (ix : List Nat) (σ : St) (wi2 : TI) (te : TE) (acc : Addr) (H1 : Hp) (Q : VK) : Prop :=
  ∃ W : Nat → Nat → List V → Hp → Prop, (∃ m, W 0 m [] (upd H1 acc (.lst []))) ∧ ∀ i m ys H, W i m ys H →
    (J.stop i H ∧ Q (.ref acc) H) ∨ (J.go i H ∧ ∀ σ0 x H', IsCap 2 ix σ σ0 → J.yld i H x H' → wi2 (σ0.set 0 (some x)) H' fun J2 H2 =>
      ∃ U : Nat → Nat → List V → Hp → Prop, (∃ m2, U 0 m2 ys H2) ∧ ∀ j m2 zs H, U j m2 zs H → (J2.stop j H ∧ ∃ m', m' < m ∧ W (i + 1) m' zs H) ∨
        (J2.go j H ∧ ∀ y H', J2.yld j H y H' → te ((σ0.set 0 (some x)).set 1 (some y)) H' fun v H3 => ∃ ks, H3 acc = some (.lst ks) ∧ ks.length < sizeLine ∧ ∃ m', m' < m2 ∧ U (j + 1) m' (ks ++ [v]) (upd H3 acc (.lst (ks ++ [v])))))
noncomputable def tComp2 (wi : TI) (ix : List Nat) (wi2 : TI) (te : TE) : TE := fun σ H Q => wi σ H fun J H1 => ∀ acc, H1 acc = none → CompW2 J ix σ wi2 te acc H1 Q
section
variable {prog : Program} {w : World} {A : Around} {R : Result → Shared → Prop} {s : Shared} {elt tg iter tg2 iter2 : Expr} {scope : Scope} {pos : Pos} {it acc : Value} {env : Env}
noncomputable abbrev e2 (elt tg iter tg2 iter2 : Expr) (scope : Scope) (pos : Pos) : Expr := .ListComp elt [⟨tg, iter, [], 0⟩, ⟨tg2, iter2, [], 0⟩] scope pos
theorem turn_out : compTurn (e2 elt tg iter tg2 iter2 scope pos) 0 it acc env = (standAt iter.pos >>= fun _ => pyNext it >>= fun r => match r with
    | none => pure (.done .next)
    | some v => letOwnedTupleGo tg it v >>= fun _ => assign tg env v >>= fun _ =>
      eval iter2 env >>= fun x => standAt iter2.pos >>= fun _ => foldedSetIterable iter2 env x >>= fun x => holding [x] (pyIter x) >>= fun i2 => runOwn (.compStart (e2 elt tg iter tg2 iter2 scope pos) 1 i2 acc env) env >>= fun _ =>
        again (.compLoop (e2 elt tg iter tg2 iter2 scope pos) 0 it acc env)) := by rfl
theorem turn_in : compTurn (e2 elt tg iter tg2 iter2 scope pos) 1 it acc env = (standAt iter2.pos >>= fun _ => pyNext it >>= fun r => match r with
    | none => pure (.done .next)
    | some v => letOwnedTupleGo tg2 it v >>= fun _ => assign tg2 env v >>= fun _ =>
      (eval elt env >>= fun x => call (.builtin "list.append") [acc, x] >>= fun _ => pure ()) >>= fun _ =>
        again (.compLoop (e2 elt tg iter tg2 iter2 scope pos) 1 it acc env)) := by rfl
theorem comp2_in (I : Nat → Shared → Prop)
    (turn : ∀ n s, I n s → wpAny (model prog w) A (pyNext it) (fun r s₁ => match r with
      | none => R (.ok .next) s₁
      | some v => wpAny (model prog w) A (letOwnedTupleGo tg2 it v) (fun _ s₁ => wpAny (model prog w) A (assign tg2 env v) (fun _ s₂ =>
          wpAny (model prog w) A (eval elt env) (fun x s₄ => wpAny (model prog w) A (call (.builtin "list.append") [acc, x]) (fun _ s₅ => ∃ m, m < n ∧ I m s₅) (fun _ _ => False) s₄) (fun _ _ => False) s₂) (fun _ _ => False) s₁) (fun _ _ => False) s₁) (fun _ _ => False) s)
    (n : Nat) (h : I n s) : codeAny (model prog w) A (.compLoop (e2 elt tg iter tg2 iter2 scope pos) 1 it acc env) R s := by
  refine codeAny_loop rfl I (fun n s hI => ?_) n h
  show wpAny _ A ((compTurn (e2 elt tg iter tg2 iter2 scope pos) 1 it acc env).onRaise (fun x => do noteFrame x env; theTreesLotGoes x)) _ _ s
  refine wpAny_noted ?_
  rw [turn_in]
  refine wpAny_noRaise ?_
  refine wpAny_bind (wpAny_standAt (wpAny_bind (thn (turn n s hI) fun r s₁ h₁ => ?_)))
  cases r with
  | none => exact wpAny_pure h₁
  | some v => exact wpAny_bind (thn h₁ fun _ s₂ h₂ => wpAny_bind (thn h₂ fun _ s₃ h₃ => wpAny_bind (wpAny_bind (thn h₃ fun x s₄ h₄ => wpAny_bind (thn h₄ fun _ s₅ h₅ => wpAny_pure (wpAny_pure ⟨rfl, h₅⟩))))))
theorem comp2_out (I : Nat → Shared → Prop) (hf : ∀ x, foldedSetIterable iter2 env x = pure x)
    (turn : ∀ n s, I n s → wpAny (model prog w) A (pyNext it) (fun r s₁ => match r with
      | none => R (.ok .next) s₁
      | some v => wpAny (model prog w) A (letOwnedTupleGo tg it v) (fun _ s₁ => wpAny (model prog w) A (assign tg env v) (fun _ s₂ =>
          wpAny (model prog w) A (eval iter2 env) (fun x s₃ => wpAny (model prog w) A (pyIter x) (fun i2 s₄ =>
            codeAny (model prog w) A (.compStart (e2 elt tg iter tg2 iter2 scope pos) 1 i2 acc env) (fun r s' => match r with
              | .ok _ => ∃ m, m < n ∧ I m s'
              | .error _ => False) s₄) (fun _ _ => False) s₃) (fun _ _ => False) s₂) (fun _ _ => False) s₁) (fun _ _ => False) s₁) (fun _ _ => False) s)
    (n : Nat) (h : I n s) : codeAny (model prog w) A (.compLoop (e2 elt tg iter tg2 iter2 scope pos) 0 it acc env) R s := by
  refine codeAny_loop rfl I (fun n s hI => ?_) n h
  show wpAny _ A ((compTurn (e2 elt tg iter tg2 iter2 scope pos) 0 it acc env).onRaise (fun x => do noteFrame x env; theTreesLotGoes x)) _ _ s
  refine wpAny_noted ?_
  rw [turn_out]
  refine wpAny_noRaise ?_
  refine wpAny_bind (wpAny_standAt (wpAny_bind (thn (turn n s hI) fun r s₁ h₁ => ?_)))
  cases r with
  | none => exact wpAny_pure h₁
  | some v =>
    refine wpAny_bind (thn h₁ fun _ s₂ h₂ => wpAny_bind (thn h₂ fun _ s₃ h₃ => wpAny_bind (thn h₃ fun x s₄ h₄ => wpAny_bind (wpAny_standAt (wpAny_bind (wpAny_of_eq (hf x) (wpAny_bind (wpAny_holding (thn h₄ fun i2 s₅ h₅ => ?_)))))))))
    refine wpAny_bind (wpAny_runOwn (codeAny_mono h₅ fun r s' hr => ?_))
    cases r with
    | ok f => exact wpAny_pure ⟨rfl, hr⟩
    | error e => exact hr.elim
theorem start_eq : compStart (e2 elt tg iter tg2 iter2 scope pos) 1 it acc env = (ask >>= fun st => if st.params.followText "comprehension-iter-twice" = true then again (.compLoop (e2 elt tg iter tg2 iter2 scope pos) 1 it acc env) else
    rule "comprehension.iter-twice" >>= fun _ => standAt iter2.pos >>= fun _ => pyIter it >>= fun i' => again (.compLoop (e2 elt tg iter tg2 iter2 scope pos) 1 i' acc env)) := by rfl
theorem start_at (h0 : codeAny (model prog w) A (.compLoop (e2 elt tg iter tg2 iter2 scope pos) 1 it acc env) R s)
    (h : wpAny (model prog w) A (pyIter it) (fun i' s' => codeAny (model prog w) A (.compLoop (e2 elt tg iter tg2 iter2 scope pos) 1 i' acc env) R s') (fun _ _ => False) s) :
    codeAny (model prog w) A (.compStart (e2 elt tg iter tg2 iter2 scope pos) 1 it acc env) R s := by
  refine codeAny_of_tree ?_
  show wpAny _ _ ((compStart (e2 elt tg iter tg2 iter2 scope pos) 1 it acc env).onRaise (fun x => do noteFrame x env; standAt theWindowsPlace)) _ _ s
  refine wpAny_notedAt ?_
  refine wpAny_noRaise ?_
  rw [start_eq]
  refine wpAny_bind (wpAny_askSetting ?_)
  split
  · exact wpAny_pure ⟨rfl, h0⟩
  · exact wpAny_bind (wpAny_rule (wpAny_bind (wpAny_standAt (wpAny_bind (thn h fun i' s' h' => wpAny_pure ⟨rfl, h'⟩)))))
end
theorem comp_gen2 {X : Cx} {use : Option (Value → Sem Unit)} {Q2 : Value → Shared → Prop} {pins : List (Addr × Obj)} {s : Shared} {σ : St} {H : Hp} {Q : VK} {elt iter tg iter2 tg2 : Expr} {tn' : List Str} {scope osc : Scope} {pos : Pos} {wi wi2 : TI} {te : TE} (ix : List Nat) (N' : List Str)
    (hxe : X.xe = fun _ _ => False) (hc : X.calm = true) (ho : X.env.scope = osc) (hN : N' = tn' ++ ix.map fun i => (X.N[i]?).getD ("" : Str)) (hnd : N'.Nodup)
    (hall : (∀ y ∈ scope.names, y.2 = .free → osc.names.lookup y.1 = some .cell) ∧ (∀ y ∈ scope.names, y.2 ≠ .cell) ∧ scope.kind = .function ∧ (∀ y ∈ scope.names, y.2 = .local → scope.names.lookup y.1 = some .local) ∧ (∀ y ∈ N'.drop tn'.length, scope.names.lookup y = some .free))
    (hi : PI X tg iter wi) (hg : ∀ cl C s₀ H₀ fp, PG (cxComp X scope cl C s₀ H₀ fp N') tg (gName 0)) (hi2 : ∀ cl C s₀ H₀ fp, PI (cxComp X scope cl C s₀ H₀ fp N') tg2 iter2 wi2) (hg2 : ∀ cl C s₀ H₀ fp, PG (cxComp X scope cl C s₀ H₀ fp N') tg2 (gName 1))
    (he : ∀ cl C s₀ H₀ fp, PE (cxComp X scope cl C s₀ H₀ fp N') elt te)
    (hs : ∀ x, foldedSetIterable iter X.env x = pure x) (hs2 : ∀ env x, foldedSetIterable iter2 env x = pure x) (h2n : tn'.length = 2) (I : Inv X pins σ H s) (h : tComp2 wi ix wi2 te σ H Q)
    (hfin : ∀ (acc C : Addr) (H5 : Hp) (s5 : Shared) (o : Obj), Inv X (pins ++ [(C, o)]) σ H5 s5 → (∀ x c, X.env.cells.lookup x = some c → c ≠ C) → X.s₀.heap.objs.size ≤ C → (∀ p ∈ X.pn ++ pins, p.1 ≠ C) → (∃ m, ∀ h' : Heap, h'.get? C = some o → h'.Ns C m) → Q (.ref acc) H5 → compPost (model X.prog X.w) X.A X.xe use Q2 (.ref acc) C (.ok .next) s5) :
    wpAny (model X.prog X.w) X.A (comprehension (.ListComp elt [⟨tg, iter, [], 0⟩, ⟨tg2, iter2, [], 0⟩] scope pos) scope X.env (firstIterPos [⟨tg, iter, [], 0⟩, ⟨tg2, iter2, [], 0⟩] pos) (newList []) false (eval iter X.env) use) Q2 X.xe s := by
  obtain ⟨hfr, hcell, hkind, hnames, hcap⟩ := hall
  subst ho
  have outc : ∀ y ∈ scope.names, y.2 = .free → X.env.kindOf y.1 = some .cell := fun y hy q => hfr y hy q
  obtain ⟨cl, hclos, hcl1, hcl2⟩ := closureFor_of (env := X.env) (scope := scope) fun y hy q => I.ok.has y.1 (.inl (outc y hy q))
  refine wpAny_comprehension_free (use := use) rfl hs hclos hkind hnames (thn (hi pins s σ H _ I h) fun v s1 h1 => thn h1 fun itv s2 h2 => ?_)
  obtain ⟨it, fp, tn, J, H2, e, I2, T, st2, f2, rest⟩ := h2
  subst e
  have hf2 : H2 s2.heap.objs.size = none := I2.hok.fresh (Nat.le_refl _)
  obtain ⟨W, ⟨m0, w0⟩, turn⟩ := rest s2.heap.objs.size hf2
  -- the list
  refine wpAny_newObj_type ?_
  have I3 : Inv X pins σ (upd H2 s2.heap.objs.size (.lst [])) { s2 with heap := s2.heap.push { cls := .type "list", dict := none, data := .seq ([] : List Value).toArray } } := I2.lnew (its := []) (t' := s2.toks) .nil (Nat.zero_le _)
  have keep3 : ∀ b o, s2.heap.get? b = some o → (s2.heap.push { cls := .type "list", dict := none, data := .seq ([] : List Value).toArray }).get? b = some o := fun b o q => Heap.get?_push_of_some _ q
  have fp3 : ∀ b ∈ fp, ∃ o, s2.heap.get? b = some o ∧ ∀ v, o.data ≠ .cell v := T.obj _ _ st2
  have st3 : tn 0 (s2.heap.push { cls := .type "list", dict := none, data := .seq ([] : List Value).toArray }) := T.keep _ _ _ st2 fun b _ o q => keep3 b o q
  have fpn : ∀ b ∈ fp, (upd H2 s2.heap.objs.size (HO.lst [])) b = none := fun b hb => by
    obtain ⟨o, q, _⟩ := fp3 b hb
    rw [upd_ne (Nat.ne_of_lt (Heap.lt_size q))]
    exact (f2 b hb).1
  revert I3 keep3 st3 fpn w0
  generalize hS3 : ({ s2 with heap := s2.heap.push { cls := .type "list", dict := none, data := .seq ([] : List Value).toArray } } : Shared) = s3
  generalize hH3 : upd H2 s2.heap.objs.size (HO.lst []) = H3
  intro w0 I3 keep3 st3 fpn
  have acc3 : H3 s2.heap.objs.size = some (.lst []) := by rw [← hH3]; exact upd_same
  generalize s2.heap.objs.size = acc at *
  have e3 : s2.heap.push { cls := .type "list", dict := none, data := .seq ([] : List Value).toArray } = s3.heap := by rw [← hS3]
  have keep3' : ∀ b o, s2.heap.get? b = some o → s3.heap.get? b = some o := fun b o q => by rw [← e3]; exact keep3 b o q
  have st3' : tn 0 s3.heap := by rw [← e3]; exact st3
  refine wpAny_newFunctionEnv hcell (by intro y hy; simp at hy) (fun h₁ hns₁ hsb₁ => ?_) hkind
  have hC : s3.heap.objs.size = s3.heap.objs.size := rfl
  have keep4 : ∀ b o, s3.heap.get? b = some o → h₁.get? b = some o := fun b o q => hsb₁.extBut b o (Nat.ne_of_lt (Heap.lt_size q)) (Heap.get?_push_of_some _ q)
  have fpC : ∀ b ∈ fp, b ≠ s3.heap.objs.size := fun b hb => by
    obtain ⟨o, q, _⟩ := fp3 b hb
    exact Nat.ne_of_lt (Heap.lt_size (keep3' b o q))
  -- the block's context
  generalize hX' : cxComp X scope cl s3.heap.objs.size s3 H3 fp N' = X'
  have hXp : X'.prog = X.prog := by rw [← hX']; rfl
  have hXw : X'.w = X.w := by rw [← hX']; rfl
  have hXK : X'.K = X.K := by rw [← hX']; rfl
  have hXA : X'.A = X.A := by rw [← hX']; rfl
  have hXe : X'.env = compEnvC scope cl s3.heap.objs.size X.env := by rw [← hX']; rfl
  have hXc : X'.calm = true := by rw [← hX']; exact hc
  have hXx : X'.xe = fun _ _ => False := by rw [← hX']; exact hxe
  have hXf : X'.fs = frs X.stack := by rw [← hX']; rfl
  have hXex : X'.ex = fp := by rw [← hX']; rfl
  have hXN : X'.N = N' := by rw [← hX']; rfl
  have hXs : X'.s₀ = s3 := by rw [← hX']; rfl
  have hXH : X'.H₀ = H3 := by rw [← hX']; rfl
  have hXpn : X'.pn = [] := by rw [← hX']; rfl
  have okX : X'.Ok := by
    rw [← hX']
    refine ⟨I3.ok.mod, hkind, I3.ok.glob, I3.ok.blt, Nat.le_refl _, fun a b c p q => I3.ok.inj a b c (hcl1 a c p) (hcl1 b c q), fun y hy => ?_, fun _ _ z => (by cases z), I3.ok.hd, I3.ok.frames, .inl rfl, fun b hb => ⟨fpC b hb, fun y c p => (f2 b hb).2.2.2.2.1 y c (hcl1 y c p)⟩,
      I3.bs, Nat.le_trans I3.ok.bsz I3.sz, fun b o p hb => ?_, fun b hb z => ?_, I3.stack, I3.stkFree⟩
    · have hy' : (relabel scope X.env).names.lookup y = some .cell ∨ (relabel scope X.env).names.lookup y = some .free := hy
      have free : scope.names.lookup y = some .free → ∃ c, cl.lookup y = some c := fun q => hcl2 y (lookup_mem q)
      rcases hy' with q | q
      · rcases relabel_kind q with z | ⟨z, _⟩
        · exact absurd rfl (hcell _ (lookup_mem z))
        · exact free z
      · rcases relabel_kind q with z | ⟨_, z⟩
        · exact free z
        · cases z
    · rcases (f2 b hb).2.2.2.1 with z | z
      · exact I3.ok.noex b o p z
      · exact absurd (Nat.lt_of_lt_of_le (Heap.lt_size p) (Nat.le_trans I3.ok.bsz z)) (Nat.lt_irrefl _)
    · rcases List.mem_cons.mp (I3.stkSub b z) with q | q
      · exact (f2 b hb).2.1 q
      · exact (f2 b hb).2.2.1 q
  have I4 : ∀ tk, Inv X' [] (capT tn'.length ix σ) H3 { s3 with heap := h₁, toks := tk } := fun tk => by
    have hloc := I3.loc
    refine ⟨okX, by rw [hXs], I3.bare, ?_, ⟨fun y => ([] : List (Str × Value)).reverse.lookup y, by rw [hXe]; exact hns₁, fun i y v e1 e2 e3 => ?_⟩, fun y c p => ?_, ?_, fun y c p => ?_, fun p hp => ?_, ?_, ?_⟩
    · rw [hXf, hXex, hXH, hXs]; exact Un.kept keep4
    · rw [hXN, hN] at e1
      by_cases hit' : i < tn'.length
      · exfalso
        unfold capT at e2
        rw [List.getElem?_append_left (by simpa using hit'), List.getElem?_replicate, if_pos hit'] at e2
        cases e2
      · have e10 : N'[i]? = some y := by rw [hN]; exact e1
        obtain ⟨j, rfl⟩ : ∃ j, i = tn'.length + j := ⟨i - tn'.length, by omega⟩
        have e1' : (ix.map fun i => (X.N[i]?).getD ("" : Str))[j]? = some y := by
          rw [List.getElem?_append_right (by omega)] at e1
          rw [show tn'.length + j - tn'.length = j by omega] at e1
          exact e1
        have e2' : (ix.map fun i => (σ[i]?).join)[j]? = some (some v) := by
          unfold capT at e2
          rw [List.getElem?_append_right (by simp)] at e2
          simpa using e2
        rw [List.getElem?_map] at e1' e2'
        cases hj : ix[j]? with
        | none => rw [hj] at e1'; cases e1'
        | some i0 =>
          rw [hj] at e1' e2'
          have e1'' : (X.N[i0]?).getD ("" : Str) = y := by simpa using e1'
          have e2'' : (σ[i0]?).join = some v := by simpa using e2'
          have hsv : σ[i0]? = some (some v) := by
            cases q : σ[i0]? with
            | none => rw [q] at e2''; cases e2''
            | some z => rw [q] at e2''; have : z = some v := by simpa using e2''
                        rw [this]
          have hlt : i0 < X.N.length := by
            have := (List.getElem?_eq_some_iff.mp hsv).1
            rw [I3.len] at this; exact this
          have hNy : X.N[i0]? = some y := by
            rw [List.getElem?_eq_getElem hlt] at e1'' ⊢
            simpa using e1''
          have hyt : y ∈ N'.drop tn'.length := by
            refine List.mem_of_getElem? (i := j) ?_
            rw [List.getElem?_drop]; exact e10
          have hyf := hcap y hyt
          have hyc := outc (y, .free) (lookup_mem hyf) rfl
          obtain ⟨m, hn, hl⟩ := hloc
          obtain ⟨u, r, l⟩ := hl i0 y v hNy hsv (.inr (.inl hyc))
          refine ⟨u, r, ?_⟩
          rcases l with ⟨k1, _⟩ | ⟨_, c, p, z⟩
          · have hyc' : X.env.kindOf y = some .cell := hyc
            rw [k1] at hyc'; cases hyc'
          · obtain ⟨c', p'⟩ := hcl2 y (lookup_mem hyf)
            have pc : c' = c := by
              have := hcl1 y c' p'
              rw [p] at this; cases this; rfl
            subst pc
            refine .inr ⟨.inl ?_, c', by rw [hXe]; exact p', ?_⟩
            · rw [hXe]; exact lookup_relabel_free I3.ok.kind hyf hyc
            · obtain ⟨o, q1, q2⟩ := z
              exact ⟨o, keep4 c' o q1, q2⟩
    · rw [hXe] at p
      obtain ⟨v, o, q1, q2⟩ := I3.cell y c (hcl1 y c p)
      exact ⟨v, o, keep4 c o q1, q2⟩
    · rw [hXe]; exact I3.hok.fresh (Nat.le_refl _)
    · rw [hXe] at p; exact I3.freeC y c (hcl1 y c p)
    · rw [hXpn] at hp; cases hp
    · rw [hXp, hXw]; exact I3.hok.kept keep4
    · rw [hXN, hN]; simp [capT]
  -- the loop
  have stat : ∀ {H' : Hp}, (∀ b ∈ fp, H' b = none) → ∀ b ∈ fp, FpOk X' [] H' b := fun hn b hb => by
    refine ⟨hn b hb, by rw [hXe]; exact fpC b hb, ?_, .inl (by rw [hXex]; exact hb), fun y c p => ?_, fun p hp => by rw [hXpn] at hp; cases hp⟩
    · rw [hXf]; intro z
      rcases List.mem_cons.mp (I3.stkSub b z) with q | q
      · exact (f2 b hb).2.1 q
      · exact (f2 b hb).2.2.1 q
    · rw [hXe] at p; exact (f2 b hb).2.2.2.2.1 y c (hcl1 y c p)
  have fin : ∀ {H5 : Hp} {s5 : Shared} {σ5 : St}, Inv X' [] σ5 H5 s5 → Q (.ref acc) H5 → compPost (model X.prog X.w) X.A X.xe use Q2 (.ref acc) s3.heap.objs.size (.ok .next) s5 := fun {H5 s5 σ5} I5 q => by
    obtain ⟨m, hn, _⟩ := I5.loc
    rw [hXe] at hn
    have hn' : s5.heap.Ns s3.heap.objs.size m := hn
    obtain ⟨oC, esC, epC, hC1, hC2, hC3⟩ := hn'
    have u5 := I5.base
    rw [hXf, hXex, hXH, hXs] at u5
    have fr : H5 s3.heap.objs.size = none := by have := I5.free; rw [hXe] at this; exact this
    have hok5 := I5.hok
    rw [hXp, hXw] at hok5
    have hos : s5.os = s3.os := by have := I5.os; rw [hXs] at this; exact this
    have IX : Inv X pins σ H5 s5 := I3.call' (s' := s5) (ch := fp) hos u5 hok5 I5.bare (fun b hb => by
      obtain ⟨g0, g1, g2, g3, g4, g5⟩ := f2 b hb
      exact ⟨g3, g1, g4, g5⟩)
    have cC : ∀ x c, X.env.cells.lookup x = some c → c ≠ s3.heap.objs.size := fun x c z e => by
      obtain ⟨v, q⟩ := I3.cell x c z
      exact absurd q.lt (by rw [e]; exact Nat.lt_irrefl _)
    have pC : ∀ p ∈ X.pn ++ pins, p.1 ≠ s3.heap.objs.size := fun p hp e => by
      have := Heap.lt_size (I3.pin p hp).1
      rw [e] at this
      exact Nat.lt_irrefl _ this
    refine hfin acc s3.heap.objs.size H5 s5 oC (IX.pins_of fun p hp => ?_) cC I3.sz pC ⟨m, fun h' z => ⟨oC, esC, epC, z, hC2, hC3⟩⟩ q
    rcases List.mem_append.mp hp with z | z
    · exact IX.pin p (List.mem_append_right _ z)
    · have e := List.mem_singleton.mp z
      subst e
      refine ⟨hC1, fr, Nat.ne_of_gt I3.lt, I3.nofs (Nat.le_refl _), fun v e => ?_⟩
      have e' : oC.data = .cell v := e
      rw [hC2] at e'; cases e'
  have IsC : ∀ {σ0 : St} {i : Nat} {v : Option V}, IsCap 2 ix σ σ0 → i < 2 → IsCap 2 ix σ (σ0.set i v) := fun {σ0 i v} ⟨ts, hl, e⟩ hi => ⟨ts.set i v, by rw [List.length_set]; exact hl, by rw [e, List.set_append_left _ _ (by rw [hl]; exact hi)]⟩
  have loop : ∀ tk, codeAny (model X.prog X.w) X.A (.compLoop (.ListComp elt [⟨tg, iter, [], 0⟩, ⟨tg2, iter2, [], 0⟩] scope pos) 0 (.ref it) (.ref acc) (compEnvC scope cl s3.heap.objs.size X.env))
      (compPost (model X.prog X.w) X.A X.xe use Q2 (.ref acc) s3.heap.objs.size) { s3 with heap := h₁, toks := tk } := fun tk => by
    refine comp2_out (fun n s' => ∃ i ys σ' H', Inv X' [] σ' H' s' ∧ IsCap 2 ix σ σ' ∧ tn i s'.heap ∧ (∀ b ∈ fp, H' b = none) ∧ W i n ys H') (hs2 _) (fun n s5 h5 => ?_) m0
      ⟨0, [], capT tn'.length ix σ, H3, I4 tk, ⟨_, by rw [List.length_replicate]; exact h2n, rfl⟩, T.keep _ _ _ st3' fun b _ o q => keep4 b o q, fpn, w0⟩
    obtain ⟨i, ys, σ5, H5, I5, hσ, st5, fr5, w5⟩ := h5
    rcases turn i n ys H5 w5 with ⟨stop, q⟩ | ⟨go, step⟩
    · have d := T.done X' hXp hXw hXK hXc i [] s5 σ5 H5 (fun _ _ => False) I5 (stat fr5) st5 stop
      rw [hXA] at d
      refine thn d fun r s6 ⟨hr, I6⟩ => ?_
      subst hr
      exact fin I6 q
    · have d := T.item X' hXp hXw hXK hXc i [] s5 σ5 H5 (fun _ _ => False) I5 (stat fr5) st5 go
      rw [hXA] at d
      refine thn d fun r s6 ⟨u, hr, h6⟩ => ?_
      subst hr
      refine thn h6 fun _ s7 ⟨z, H7, I7, r7, y7, st7, fr7⟩ => ?_
      have I7' := I7.pinned (stat fr7) (T.obj _ _ st7)
      have again : ∀ {H9 : Hp} {s9 : Shared} {ys9 : List V} {σ9 : St}, Inv X' ([] ++ pinsAt fp s7.heap) σ9 H9 s9 → IsCap 2 ix σ σ9 → (∃ m', m' < n ∧ W (i + 1) m' ys9 H9) → ∃ m', m' < n ∧ ∃ i ys σ' H', Inv X' [] σ' H' s9 ∧ IsCap 2 ix σ σ' ∧ tn i s9.heap ∧ (∀ b ∈ fp, H' b = none) ∧ W i m' ys H' := fun {H9 s9 ys9 σ9} I9 c9 ⟨m', hm, w9⟩ => by
        refine ⟨m', hm, i + 1, ys9, _, H9, I9.unpinned, c9, T.keep _ _ _ st7 fun b hb o e => (I9.pin (b, o) (List.mem_append_right _ (List.mem_append_right _ (mem_pinsAt hb e)))).1, fun b hb => ?_, w9⟩
        obtain ⟨o, e, _⟩ := T.obj _ _ st7 b hb
        exact (I9.pin (b, o) (List.mem_append_right _ (List.mem_append_right _ (mem_pinsAt hb e)))).2.1
      have he' := he cl s3.heap.objs.size s3 H3 fp
      have hg' := hg cl s3.heap.objs.size s3 H3 fp
      have hg2' := hg2 cl s3.heap.objs.size s3 H3 fp
      have hi2' := hi2 cl s3.heap.objs.size s3 H3 fp
      rw [hX'] at he' hg' hg2' hi2'
      rw [← hXe]
      have a0 := hg' _ s7 σ5 H7 z u (fun σ2 Hn => σ2 = σ5.set 0 (some z) ∧ Hn = H7) I7' r7 ⟨rfl, rfl⟩
      rw [hXp, hXw, hXA, hXx] at a0
      refine thn a0 fun _ s8 ⟨σ8, H8, I8, e8, e8'⟩ => ?_
      subst e8 e8'
      have a1 := hi2' _ s8 _ H8 _ I8 (step σ5 z H8 hσ y7)
      rw [hXp, hXw, hXA, hXx] at a1
      refine thn a1 fun v2 s9 h9 => thn h9 fun itv2 s10 h10 => ?_
      obtain ⟨it2, fp2, tn2, J2, H10, e10, I10, T2, st10, f10, V, ⟨m2, v0⟩, turn2⟩ := h10
      subst e10
      rw [hXp, hXw, hXK] at T2
      have stat2 : ∀ {H' : Hp}, (∀ b ∈ fp2, H' b = none) → ∀ b ∈ fp2, FpOk X' ([] ++ pinsAt fp s7.heap) H' b := fun hn b hb => ⟨hn b hb, (f10 b hb).2⟩
      have inner : codeAny (model X.prog X.w) X.A (.compLoop (.ListComp elt [⟨tg, iter, [], 0⟩, ⟨tg2, iter2, [], 0⟩] scope pos) 1 (.ref it2) (.ref acc) X'.env) (fun r s' => match r with
          | .ok _ => ∃ m', m' < n ∧ ∃ i ys σ' H', Inv X' [] σ' H' s' ∧ IsCap 2 ix σ σ' ∧ tn i s'.heap ∧ (∀ b ∈ fp, H' b = none) ∧ W i m' ys H'
          | .error _ => False) s10 := by
        refine comp2_in (fun m s' => ∃ j zs uo H', Inv X' ([] ++ pinsAt fp s7.heap) ((σ5.set 0 (some z)).set 1 uo) H' s' ∧ tn2 j s'.heap ∧ (∀ b ∈ fp2, H' b = none) ∧ V j m zs H') (fun m s11 h11 => ?_) m2 ⟨0, ys, ((σ5.set 0 (some z))[1]?).join, H10, ?_, st10, fun b hb => (f10 b hb).1, v0⟩
        · obtain ⟨j, zs, uo, H11, I11, st11, fr11, v11⟩ := h11
          rcases turn2 j m zs H11 v11 with ⟨stop2, q2⟩ | ⟨go2, step2⟩
          · have d := T2.done X' hXp hXw hXK hXc j _ s11 _ H11 (fun _ _ => False) I11 (stat2 fr11) st11 stop2
            rw [hXA] at d
            refine thn d fun r s12 ⟨hr, I12⟩ => ?_
            subst hr
            exact again I12 (IsC (IsC hσ (by decide)) (by decide)) q2
          · have d := T2.item X' hXp hXw hXK hXc j _ s11 _ H11 (fun _ _ => False) I11 (stat2 fr11) st11 go2
            rw [hXA] at d
            refine thn d fun r s12 ⟨u2, hr, h12⟩ => ?_
            subst hr
            refine thn h12 fun _ s13 ⟨z2, H13, I13, r13, y13, st13, fr13⟩ => ?_
            have I13' := I13.pinned (stat2 fr13) (T2.obj _ _ st13)
            have b0 := hg2' _ s13 _ H13 z2 u2 (fun σ2 Hn => σ2 = ((σ5.set 0 (some z)).set 1 uo).set 1 (some z2) ∧ Hn = H13) I13' r13 ⟨rfl, rfl⟩
            rw [hXp, hXw, hXA, hXx] at b0
            refine thn b0 fun _ s14 ⟨σ14, H14, I14, e14, e14'⟩ => ?_
            subst e14 e14'
            rw [List.set_set] at I14
            have b1 := he' _ s14 _ H14 _ I14 (step2 z2 H14 y13)
            rw [hXp, hXw, hXA, hXx] at b1
            refine thn b1 fun yv s15 ⟨y, H15, I15, r15, ks, q1, q2, q3⟩ => ?_
            have b2 := mt_append (X := X') _ s15 _ H15 (.ref acc) [y] (.ref acc) [yv] (fun _ Hq => ∃ m', m' < m ∧ V (j + 1) m' (ks ++ [y]) Hq) I15 rfl (.cons r15 .nil) ⟨acc, ks, y, rfl, rfl, q1, q2, q3⟩
            rw [hXp, hXw, hXA, hXx] at b2
            refine thn b2 fun _ s16 ⟨_, H16, I16, _, m', hm', w16⟩ => ?_
            refine ⟨m', hm', j + 1, ks ++ [y], some z2, H16, I16.unpinned, T2.keep _ _ _ st13 fun b hb o e => (I16.pin (b, o) (List.mem_append_right _ (List.mem_append_right _ (mem_pinsAt hb e)))).1, fun b hb => ?_, w16⟩
            obtain ⟨o, e, _⟩ := T2.obj _ _ st13 b hb
            exact (I16.pin (b, o) (List.mem_append_right _ (List.mem_append_right _ (mem_pinsAt hb e)))).2.1
        · have : (σ5.set 0 (some z)).set 1 ((σ5.set 0 (some z))[1]?).join = σ5.set 0 (some z) := by
            obtain ⟨ts, hl, e⟩ := hσ
            match ts, hl with
            | [p, q], _ => rw [e]; rfl
          rw [this]; exact I10
      refine start_at inner ?_
      exact T2.self _ 0 _ _ _ st10 inner
  refine codeAny_compStart_list (loop _) ?_
  exact T.self _ 0 _ _ _ (T.keep _ _ _ st3' fun b _ o q => keep4 b o q) (loop _)
section
variable {X : Cx} {elt iter tg iter2 tg2 : Expr} {scope osc : Scope} {pos : Pos} {wi wi2 : TI} {te : TE}
theorem ps_comp2Set {y : Str} {py spos : Pos} {i : Nat} (ix : List Nat) (tn' N' : List Str) (h2n : tn'.length = 2)
    (hxe : X.xe = fun _ _ => False) (hc : X.calm = true) (ho : X.env.scope = osc) (hN : N' = tn' ++ ix.map fun i => (X.N[i]?).getD ("" : Str)) (hnd : N'.Nodup)
    (hall : (∀ y ∈ scope.names, y.2 = .free → osc.names.lookup y.1 = some .cell) ∧ (∀ y ∈ scope.names, y.2 ≠ .cell) ∧ scope.kind = .function ∧ (∀ y ∈ scope.names, y.2 = .local → scope.names.lookup y.1 = some .local) ∧ (∀ y ∈ N'.drop tn'.length, scope.names.lookup y = some .free))
    (hi : PI X tg iter wi) (hg : ∀ cl C s₀ H₀ fp, PG (cxComp X scope cl C s₀ H₀ fp N') tg (gName 0)) (hi2 : ∀ cl C s₀ H₀ fp, PI (cxComp X scope cl C s₀ H₀ fp N') tg2 iter2 wi2) (hg2 : ∀ cl C s₀ H₀ fp, PG (cxComp X scope cl C s₀ H₀ fp N') tg2 (gName 1))
    (he : ∀ cl C s₀ H₀ fp, PE (cxComp X scope cl C s₀ H₀ fp N') elt te)
    (hNN : X.N.Nodup) (hy : X.N[i]? = some y) (hl : X.env.scope.names.lookup y = some .local)
    (hsw : swapsWith (.ListComp elt [⟨tg, iter, [], 0⟩, ⟨tg2, iter2, [], 0⟩] scope pos) (some (.Name y py)) spos.line X.env = pure true := by rfl)
    (hs : ∀ x, foldedSetIterable iter X.env x = pure x := by intro _; rfl) (hs2 : ∀ env x, foldedSetIterable iter2 env x = pure x := by intro _ _; rfl) :
    PS X (.Assign [.Name y py] (.ListComp elt [⟨tg, iter, [], 0⟩, ⟨tg2, iter2, [], 0⟩] scope pos) spos) (tAsg (tComp2 wi ix wi2 te) (gName i)) := by
  intro pins s σ H D I h
  rw [exec_Assign_Name_used _ _ _ _ hsw]
  refine wpAny_bind (wpAny_standAt ?_)
  show wpAny _ _ (evalThenUse (.ListComp elt [⟨tg, iter, [], 0⟩, ⟨tg2, iter2, [], 0⟩] scope pos) X.env (assign (.Name y py) X.env) >>= fun _ => pure Flow.next) _ _ _
  refine wpAny_bind ?_
  show wpAny _ _ (comprehension (.ListComp elt [⟨tg, iter, [], 0⟩, ⟨tg2, iter2, [], 0⟩] scope pos) scope X.env (firstIterPos [⟨tg, iter, [], 0⟩, ⟨tg2, iter2, [], 0⟩] pos) (newList []) false (eval iter X.env) (some (assign (.Name y py) X.env)) >>= fun _ => pure ()) _ _ _
  refine wpAny_bind (comp_gen2 (use := some (assign (.Name y py) X.env)) ix N' hxe hc ho hN hnd hall hi hg hi2 hg2 he hs hs2 h2n I h fun acc C H5 s5 o I5 cC hC pC hm q => ?_)
  obtain ⟨m, hm⟩ := hm
  refine wpAny_assign_Name (store_ok (i := i) (v := .ref acc) I5 hNN hy (.inl hl) rfl (fun s6 I6 => ?_) (.inr hl))
  refine ⟨m, hm _ (I6.pin (C, o) (List.mem_append_right _ (List.mem_append_right _ (List.mem_singleton.mpr rfl)))).1, fun h' hs' => ?_⟩
  exact wpAny_pure (wpAny_pure ⟨_, H5, I6.butC cC hC pC hs', q⟩)
end
end L2
namespace L2.FE
open PySem PySem.Spec PyProof.Rows
noncomputable def cap2 (ix : List Nat) (env : En) (a b : Option D) : En := a :: b :: ix.map fun i => (env[i]?).join
noncomputable def appN (n0 : Nat) (y : D) (h : Hh) : R Unit := match lstOf h n0 with
  | some ds => if ds.length < 1000000 then .ok () (h.set n0 (.lst (ds ++ [y]))) else .bad
  | none => .bad
noncomputable def innG (n0 : Nat) (rd : Rdr) (te : ME) (ff : D → En) : Nat → Nat → Hh → R Unit
  | k, j, h => match rd h j with
    | none => .bad
    | some none => .ok () h
    | some (some e) => match k with
      | 0 => .bad
      | k + 1 => (te (ff e) h).bind fun y h2 => (appN n0 y h2).bind fun _ h3 => innG n0 rd te ff k (j + 1) h3
noncomputable def outG (n0 : Nat) (rd : Rdr) (mi2 : MI) (te : ME) (ff : Option D → Option D → En) : Nat → Nat → Hh → R Unit
  | k, i, h => match rd h i with
    | none => .bad
    | some none => .ok () h
    | some (some d) => match k with
      | 0 => .bad
      | k + 1 => (mi2 (ff (some d) none) h).bind fun sr h1 => (innG n0 sr.rdr te (fun e => ff (some d) (some e)) (sr.fuel h1) 0 h1).bind fun _ h2 => outG n0 rd mi2 te ff k (i + 1) h2
noncomputable def cComp2 (mi : MI) (ix : List Nat) (mi2 : MI) (te : ME) : ME := fun env h => (mi env h).bind fun sr h1 => (outG h1.length sr.rdr mi2 te (cap2 ix env) (sr.fuel h1) 0 (h1 ++ [.lst []])).bind fun _ h2 => .ok (.ref h1.length) h2
section
variable {K : PySem.W.Frag} {g : GG}
theorem capG_rel {α : List Addr} {H : Hp} {env : En} {σ : St} {ix : List Nat} {a b : Option D} {p q : Option V} (s : VRel K g α H env σ) (ra : ∀ d, a = some d → ∃ v, p = some v ∧ RelD K g α H d v) (rb : ∀ d, b = some d → ∃ v, q = some v ∧ RelD K g α H d v) : VRel K g α H (cap2 ix env a b) (p :: q :: ix.map fun i => (σ[i]?).join) := by
  refine ⟨by simp [cap2], fun i e h => ?_⟩
  match i with
  | 0 =>
    have : a = some e := by simpa [cap2] using h
    obtain ⟨v, rfl, r⟩ := ra e this
    exact ⟨v, rfl, r⟩
  | 1 =>
    have : b = some e := by simpa [cap2] using h
    obtain ⟨v, rfl, r⟩ := rb e this
    exact ⟨v, rfl, r⟩
  | i + 2 =>
    have h' : (ix.map fun i => (env[i]?).join)[i]? = some (some e) := by simpa [cap2] using h
    rw [List.getElem?_map] at h'
    cases ei : ix[i]? with
    | none => rw [ei] at h'; cases h'
    | some j =>
      rw [ei] at h'
      have h2 : (env[j]?).join = some e := by simpa using h'
      cases ej : env[j]? with
      | none => rw [ej] at h2; cases h2
      | some oe =>
        rw [ej] at h2
        have h3 : oe = some e := by simpa using h2
        subst h3
        obtain ⟨u, eu, ru⟩ := s.vars j e ej
        refine ⟨u, ?_, ru⟩
        simp only [List.getElem?_cons_succ, List.getElem?_map, ei, Option.map_some, eu]
        rfl
theorem pos_pre {α α' : List Addr} {n : Nat} {p : Addr} {H H' : Hp} (e : Ext K α H α' H') (h : α[n]? = some p) : α'[n]? = some p := by
  obtain ⟨l, rfl⟩ := e.toEx0.pre
  rw [List.getElem?_append_left]
  · exact h
  · by_cases hl : n < α.length
    · exact hl
    · rw [List.getElem?_eq_none (by omega)] at h; cases h
theorem tComp2_of {mi mi2 : MI} {te : ME} {ix : List Nat} {σ : St} {H : Hp} {Q : VK} (t : tM K g E00 (cComp2 mi ix mi2 te) σ H Q) : tComp2 (tMI K g E00 mi) ix (tMI K g E00 mi2) (tM K g E00 te) σ H Q := by
  obtain ⟨α, env, h, s, w⟩ := t
  unfold cComp2 at w
  refine ⟨α, env, h, s, w.bind.mono fun sr h1 _ w1 J H1 α1 e1 hr1 rd => fun acc hacc => ?_⟩
  have s1 := s.ext e1 hr1
  have xp : Ext K α1 H1 (α1 ++ [acc]) (upd H1 acc (.lst [])) := Ext.push hacc
  have hrp : HRel K g (α1 ++ [acc]) (upd H1 acc (.lst [])) (h1 ++ [.lst []]) := hr1.push hacc ⟨[], upd_same, .nil⟩
  have p0 : (α1 ++ [acc])[h1.length]? = some acc := by rw [← hr1.len]; simp
  refine ⟨fun i m ys H => ∃ α h, Ext K α1 H1 α H ∧ α[h1.length]? = some acc ∧ HRel K g α H h ∧
    WQ K g E00 α1 H1 ((outG h1.length sr.rdr mi2 te (cap2 ix env) m i h).bind fun _ h2 => .ok (.ref h1.length) h2) (Post K g α1 H1 Q),
    ⟨sr.fuel h1, _, _, xp, p0, hrp, w1.post e1⟩, ?_⟩
  rintro i m ys H2 ⟨α2, h2, x2, p2, hr2, w2⟩
  have q := rd α2 H2 h2 x2 hr2 i
  unfold outG at w2
  cases e : sr.rdr h2 i with
  | none => rw [e] at w2; exact w2.elim
  | some od =>
    rw [e] at w2 q
    cases od with
    | none => exact .inl ⟨q, (show Post K g α1 H1 Q (.ref h1.length) h2 from w2) _ _ _ x2 hr2 (.ref p2)⟩
    | some d =>
      cases m with
      | zero => exact w2.elim
      | succ m =>
        rw [bind_bind] at w2
        have w3 := WQ.bind (show WQ K g E00 α1 H1 ((mi2 (cap2 ix env (some d) none) h2).bind _) _ from w2)
        refine .inr ⟨q.1, fun σ0 x H3 hcap y => ?_⟩
        obtain ⟨ts, hl, hσ0⟩ := hcap
        match ts, hl with
        | [v0, q0], _ =>
        subst hσ0
        obtain ⟨α3, x3, hr3, rx⟩ := q.2 x H3 y
        have s3 : SRel K g α3 H3 (cap2 ix env (some d) none) (some x :: q0 :: ix.map fun i => (σ[i]?).join) h2 := ⟨hr3, capG_rel (s1.vs.ext (x2.trans x3)) (fun d' hd => by cases hd; exact ⟨x, rfl, rx⟩) (fun d' hd => by cases hd)⟩
        refine ⟨α3, _, h2, s3, ((w3.ext x2).ext x3).mono fun sr2 h4 _ w4 J2 H4 α4 x4 hr4 rd2 => ?_⟩
        have x14 := x2.trans (x3.trans x4)
        have p4 := pos_pre (x3.trans x4) p2
        refine ⟨fun j m2 zs H => ∃ α h, Ext K α4 H4 α H ∧ HRel K g α H h ∧
          WQ K g E00 α1 H1 (((innG h1.length sr2.rdr te (fun e => cap2 ix env (some d) (some e)) m2 j h).bind fun _ h2 => outG h1.length sr.rdr mi2 te (cap2 ix env) m (i + 1) h2).bind fun _ h2 => .ok (.ref h1.length) h2) (Post K g α1 H1 Q),
          ⟨sr2.fuel h4, α4, h4, Ext.refl, hr4, w4⟩, ?_⟩
        rintro j m2 zs H5 ⟨α5, h5, x5, hr5, w5⟩
        have q2 := rd2 α5 H5 h5 x5 hr5 j
        have p5 := pos_pre x5 p4
        unfold innG at w5
        cases e2 : sr2.rdr h5 j with
        | none => rw [e2] at w5; exact w5.elim
        | some od2 =>
          rw [e2] at w5 q2
          cases od2 with
          | none => exact .inl ⟨q2, m, Nat.lt_succ_self _, α5, h5, x14.trans x5, p5, hr5, w5⟩
          | some d2 =>
            cases m2 with
            | zero => exact w5.elim
            | succ m2 =>
              have w6 : WQ K g E00 α1 H1 ((te (cap2 ix env (some d) (some d2)) h5).bind fun y h2 => (((appN h1.length y h2).bind fun _ h3 => innG h1.length sr2.rdr te (fun e => cap2 ix env (some d) (some e)) m2 (j + 1) h3).bind fun _ h2 => outG h1.length sr.rdr mi2 te (cap2 ix env) m (i + 1) h2).bind fun _ h2 => .ok (.ref h1.length) h2) (Post K g α1 H1 Q) := by
                have := w5
                simp only [bind_bind] at this ⊢
                exact this
              refine .inr ⟨q2.1, fun yv H6 yy => ?_⟩
              obtain ⟨α6, x6, hr6, ry⟩ := q2.2 yv H6 yy
              have s6 : SRel K g α6 H6 (cap2 ix env (some d) (some d2)) (some x :: some yv :: ix.map fun i => (σ[i]?).join) h5 := ⟨hr6, capG_rel (s1.vs.ext (x14.trans (x5.trans x6))) (fun d' hd => by cases hd; exact ⟨x, rfl, rx.ext (x4.trans (x5.trans x6))⟩) (fun d' hd => by cases hd; exact ⟨yv, rfl, ry⟩)⟩
              refine tM.use s6 ((WQ.bind w6).ext (x14.trans (x5.trans x6))) fun y h7 v7 H7 α7 x7 s7 r7 w7 => ?_
              have p7 := pos_pre (x6.trans x7) p5
              unfold appN at w7
              cases el : lstOf h7 h1.length with
              | none => rw [el] at w7; exact w7.elim
              | some ds =>
                rw [el] at w7
                dsimp only at w7
                by_cases hlen : ds.length < 1000000
                · rw [if_pos hlen] at w7
                  obtain ⟨vs, hv, rs⟩ := s7.heap.lst el p7
                  have x := Ext.write (K := K) (o := .lst (vs ++ [v7])) s7.heap p7
                  exact ⟨vs, hv, by rw [← rs.length, sizeLine_eq]; omega, m2, Nat.lt_succ_self _, α7, _, (x5.trans (x6.trans x7)).trans x, s7.heap.write (u' := .lst (ds ++ [y])) p7 ⟨_, upd_same, (rs.append (.cons r7 .nil)).ext x⟩, w7⟩
                · rw [if_neg hlen] at w7; exact w7.elim
end
section
variable {X : Cx} {g : GG}
theorem s_comp2Set {elt iter iter2 : Expr} {x y z : Str} {px py pz : Pos} {scope osc : Scope} {pos spos : Pos} {mi mi2 : MI} {te : ME} {i : Nat} (ix : List Nat) (N' : List Str)
    (hxe : X.xe = fun _ _ => False) (hc : X.calm = true) (ho : X.env.scope = osc) (hN : N' = [x, y] ++ ix.map fun i => (X.N[i]?).getD ("" : Str)) (hnd : N'.Nodup)
    (hall : (∀ y ∈ scope.names, y.2 = .free → osc.names.lookup y.1 = some .cell) ∧ (∀ y ∈ scope.names, y.2 ≠ .cell) ∧ scope.kind = .function ∧ (∀ y ∈ scope.names, y.2 = .local → scope.names.lookup y.1 = some .local) ∧ (∀ z ∈ N'.drop [x, y].length, scope.names.lookup z = some .free))
    (hi : PI X (.Name x px) iter (tMI X.K g E00 mi))
    (hx : ∀ cl C s₀ H₀ fp, Loc (cxComp X scope cl C s₀ H₀ fp N').env.scope x ∧ (cxComp X scope cl C s₀ H₀ fp N').env.scope.names.lookup x = some .local) (hy : ∀ cl C s₀ H₀ fp, Loc (cxComp X scope cl C s₀ H₀ fp N').env.scope y ∧ (cxComp X scope cl C s₀ H₀ fp N').env.scope.names.lookup y = some .local)
    (hi2 : ∀ cl C s₀ H₀ fp, PI (cxComp X scope cl C s₀ H₀ fp N') (.Name y py) iter2 (tMI X.K g E00 mi2))
    (he : ∀ cl C s₀ H₀ fp, PE (cxComp X scope cl C s₀ H₀ fp N') elt (tM X.K g E00 te))
    (hNN : X.N.Nodup) (hz : X.N[i]? = some z) (hl : X.env.scope.names.lookup z = some .local := by rfl)
    (hsw : swapsWith (.ListComp elt [⟨.Name x px, iter, [], 0⟩, ⟨.Name y py, iter2, [], 0⟩] scope pos) (some (.Name z pz)) spos.line X.env = pure true := by rfl)
    (hs : ∀ x, foldedSetIterable iter X.env x = pure x := by intro _; rfl) (hs2 : ∀ env x, foldedSetIterable iter2 env x = pure x := by intro _ _; rfl) :
    PS X (.Assign [.Name z pz] (.ListComp elt [⟨.Name x px, iter, [], 0⟩, ⟨.Name y py, iter2, [], 0⟩] scope pos) spos) (tMS X.K g E00 (cSet i (cComp2 mi ix mi2 te))) :=
  PS.imp (ps_comp2Set ix [x, y] N' rfl hxe hc ho hN hnd hall hi (fun cl C s₀ H₀ fp => pg_name (X := cxComp X scope cl C s₀ H₀ fp N') hnd (show N'[0]? = some x by rw [hN]; rfl) (hx cl C s₀ H₀ fp).1 (.inr (hx cl C s₀ H₀ fp).2)) hi2 (fun cl C s₀ H₀ fp => pg_name (X := cxComp X scope cl C s₀ H₀ fp N') hnd (show N'[1]? = some y by rw [hN]; rfl) (hy cl C s₀ H₀ fp).1 (.inr (hy cl C s₀ H₀ fp).2)) he hNN hz hl hsw hs hs2) fun E σ H ⟨α, env, h, s, w⟩ => tComp2_of (Q := fun v H1 => E.nx (σ.set i (some v)) H1) (tM.use s w.bind fun d1 h1 v1 H1 α1 e1 s1 r1 w1 => (show PostS X.K g α H E (.nx (env.set i (some d1))) h1 from w1) H1 α1 e1 s1.heap _ (s1.vs.set r1))
end
end L2.FE
namespace L2.FE
open PySem PySem.Spec PyProof.Rows
noncomputable def exitQ (h : Hh) : D → Hh → R D := fun d h' => match d with
  | .ref n => exitR h (.ref n) h'
  | d => exitF h d h'
theorem exitQ_cases (h : Hh) (r : R D) : r.bind (exitQ h) = r.bind (exitR h) ∨ r.bind (exitQ h) = r.bind (exitF h) := by
  cases r with
  | ok d h' => cases d <;> first | exact .inl rfl | exact .inr rfl
  | err x h' => exact .inl rfl
  | bad => exact .inl rfl
section
variable {P : Program} {w : World} {K : PySem.W.Frag} {mg : Str → Option Value} {base : Heap} {g : GG} {k np : Nat} {f : Addr} {fd : FuncData} {ps : List Str} {m : MF}
theorem fn_exitQ {CX : CXT} {ε : XK → EE} (F : FnOk P w K mg base CX k f fd ps (spG K g ε np m)) : FnOk P w K mg base CX k f fd ps (spG K g ε np fun ds h => (m ds h).bind (exitQ h)) := by
  have cv : ∀ {vs : List V} {H : Hp} {Q : VK} {E : XK}, spG K g ε np (fun ds h => (m ds h).bind (exitQ h)) vs H Q E → spG K g ε np (fun ds h => (m ds h).bind (exitR h)) vs H Q E ∨ spG K g ε np (fun ds h => (m ds h).bind (exitF h)) vs H Q E := fun {vs H Q E} ⟨hl, α, ds, h, rs, hh, w⟩ => by
    rcases exitQ_cases h (m ds h) with e | e
    · exact .inl ⟨hl, α, ds, h, rs, hh, by show WQ K g (ε E) α H ((m ds h).bind (exitR h)) _; rw [← e]; exact w⟩
    · exact .inr ⟨hl, α, ds, h, rs, hh, by show WQ K g (ε E) α H ((m ds h).bind (exitF h)) _; rw [← e]; exact w⟩
  refine ⟨fun vs H Q E h => ?_, fun A outer s H args us vs Q E hr e0 hb hv hsp => ?_⟩
  · rcases cv h with h | h
    · exact (fn_exitR F).len vs H Q E h
    · exact (fn_exit F).len vs H Q E h
  · rcases cv hsp with h | h
    · exact (fn_exitR F).run A outer s H args us vs Q E hr e0 hb hv h
    · exact (fn_exit F).run A outer s H args us vs Q E hr e0 hb hv h
end
noncomputable def dReprY : List D → Hh → R D := fun ds h => match dReprX ds h with
  | .ok d h' => .ok d h'
  | _ => dReprL ds h
section
variable {X : Cx} {g : GG} {ε : EE} {K : PySem.W.Frag}
theorem or_reprY (hg : X.A.guards = some []) (hu : X.A.units + 64 < cLine) : CallR X (.builtin "repr") (fun vs H Q => rrReprX X.K vs H Q ∨ rrReprL X.K vs H Q) := CallR.or (or_reprX hg hu) (call_reprM hg hu)
theorem im_reprY : ImpL K g ε dReprY (fun vs H Q => rrReprX K vs H Q ∨ rrReprL K vs H Q) := by
  intro α H h a x Q r ra w
  unfold dReprY at w
  cases e : dReprX a h with
  | ok d h' => rw [e] at w; exact .inl (im_reprX α H h a x Q r ra (by rw [e]; exact w))
  | err z h' => rw [e] at w; exact .inr (im_reprL α H h a x Q r ra w)
  | bad => rw [e] at w; exact .inr (im_reprL α H h a x Q r ra w)
theorem reprY_of {ds : List D} {h : Hh} {s : Str} (e : dReprX ds h = .ok (.str s) h) : dReprY ds h = .ok (.str s) h := by delta dReprY; rw [e]
end
section
variable {X : Cx} {g : GG} {ε : EE} {K : PySem.W.Frag}
end
section
variable {h : Hh}
end
end L2.FE
namespace FC
open PySem L2 L2.FE
noncomputable def m__law_cell_at : MF := cFun 2 (cSeq (cIfS (cTest asB (cBin dLt (cVar 1) (cCall dLen (cCons (cVar 0) cNil)))) (cRet (cBin dIx (cVar 0) (cVar 1))) cSkip)
    (cRet (cC (.int 0))))
noncomputable def r__law_pen_of : MF := cFun 2 (cSeq (cSet 1 (cCall dMax2 (cCons (cVar 0) (cCons (cBin dSub (cC (.int 0)) (cVar 0)) cNil))))
    (cRet (cCall (dLst newL) (cCons (cVar 1) (cCons (cCall dInt (cCons (cBin dGe (cVar 1) (cBin dPow (cC (.int 10)) (cC (.int 18)))) cNil)) (cCons (cBin dMod (cVar 1) (cC (.int 1000003))) cNil))))))
noncomputable def m__law_next : MF := cFun 1 (cSeq (cSet 0 (cBin dMod (cBin (dAdd frzL) (cVar 0) (cC (.int 7919))) (cC (.int 2147483647))))
    (cRet (cBin dMod (cBin (dAdd frzL) (cBin (dAdd frzL) (cBin (dMul frzL) (cVar 0) (cVar 0)) (cBin (dMul frzL) (cC (.int 48271)) (cVar 0))) (cC (.int 12345))) (cC (.int 2147483629)))))
noncomputable def m__law_draw : MF := cFun 3 (cSeq (cIfS (cAndT (cTest asB (cBin dEq (cBin dIx (cVar 0) (cC (.int 1))) (cC (.int 1)))) (cTest asB (cBin dGt (cBin dIx (cVar 0) (cC (.int 0))) (cC (.int 0))))) (cSeq (cSet 2 (cBin dMod (cBin dIx (cVar 0) (cC (.int 0))) (cVar 1)))
    (cSeq (cSetIx dSetIx (cVar 0) (cC (.int 0)) (cBin dDiv (cBin dIx (cVar 0) (cC (.int 0))) (cVar 1)))
    (cRet (cVar 2)))) cSkip)
    (cSeq (cSetIx dSetIx (cVar 0) (cC (.int 2)) (cCall m__law_next (cCons (cBin (dAdd frzL) (cCall m__law_next (cCons (cBin dIx (cVar 0) (cC (.int 2))) cNil)) (cC (.int 7))) cNil)))
    (cRet (cBin dMod (cBin dDiv (cBin dIx (cVar 0) (cC (.int 2))) (cC (.int 64))) (cVar 1)))))
noncomputable def m_is_whole : MF := cFun 1 (cRet (cAndV (cUn (dIsI "int") (cVar 0)) (cNotV (cUn (dIsI "bool") (cVar 0)))))
noncomputable def m_is_within : MF := cFun 3 (cRet (cAndV (cCall m_is_whole (cCons (cVar 0) cNil)) (cChain dLe dLe (cVar 1) (cVar 0) (cVar 2))))
noncomputable def m_number_needed : MF := cFun 3 (cIfS (cNotT (cTest dTru (cCall m_is_within (cCons (cVar 0) (cCons (cVar 1) (cCons (cVar 2) cNil)))))) cNoS cSkip)
noncomputable def m_slab_needed : MF := cFun 3 (cSeq (cExpr (cCall m_number_needed (cCons (cVar 0) (cCons (cC (.int 1)) (cCons (cC (.int 8)) cNil)))))
    (cSeq (cExpr (cCall m_number_needed (cCons (cVar 1) (cCons (cC (.int 1)) (cCons (cC (.int 20)) cNil)))))
    (cExpr (cCall m_number_needed (cCons (cVar 2) (cCons (cC (.int 0)) (cCons (cC (.int 8)) cNil)))))))
noncomputable def m_slab_count : MF := locF (fun ds h => ((cFun 9 (cSeq (cSet 3 (cCall (dLst frzL) (cCons (cC (.int 1)) cNil)))
    (cSeq (cFor (cRng rng1 (cCons (cVar 0) cNil)) (gN 4) (cSeq (cSet 5 (cBin (dMul newL) (cCall (dLst frzL) (cCons (cC (.int 0)) cNil)) (cBin dSub (cBin (dAdd frzL) (cCall dLen (cCons (cVar 3) cNil)) (cVar 1)) (cC (.int 1)))))
    (cSeq (cFor (cEnumI (cVar 3)) (gT2 6 7) (cFor (cRng rng1 (cCons (cVar 1) cNil)) (gN 8) (cAugIx (cVar 5) (cBin (dAdd frzL) (cVar 6) (cVar 8)) (cVar 7))))
    (cSet 3 (cVar 5)))))
    (cRet (cCall dSum (cCons (cSlice frzL (cVar 3) (cPart (cBin (dMul frzL) (cVar 2) (cVar 1))) (cPart (cBin (dAdd frzL) (cBin (dMul frzL) (cVar 2) (cVar 1)) (cVar 1)))) cNil)))))) ds h).bind (exitF h))
noncomputable def m_slab_many : MF := cFun 3 (cSeq (cExpr (cCall m_slab_needed (cCons (cVar 0) (cCons (cVar 1) (cCons (cVar 2) cNil)))))
    (cRet (cCall m_slab_count (cCons (cVar 0) (cCons (cVar 1) (cCons (cVar 2) cNil))))))
noncomputable def m__law_picked : MF := cFun 5 (cSeq (cUn2 2 3 (cCall dTup (cCons (cC (.int 1)) (cCons (cC (.int 1)) cNil))))
    (cSeq (cFor (cRng rng1 (cCons (cVar 1) cNil)) (gN 4) (cPar 2 3 (cCons (cBin (dMul frzL) (cVar 2) (cCall dMax2 (cCons (cC (.int 0)) (cCons (cBin dSub (cVar 0) (cVar 4)) cNil)))) (cCons (cBin (dMul frzL) (cVar 3) (cBin (dAdd frzL) (cVar 4) (cC (.int 1)))) cNil))))
    (cRet (cBin dDiv (cVar 2) (cVar 3)))))
noncomputable def m__law_below : MF := cFun 6 (cSeq (cSet 3 (cC (.int 0)))
    (cSeq (cFor (cRng rng1 (cCons (cBin (dAdd frzL) (cVar 0) (cC (.int 1))) cNil)) (gN 4) (cSeq (cSet 5 (cCall m__law_picked (cCons (cBin dSub (cBin (dAdd frzL) (cBin dSub (cVar 2) (cBin (dMul frzL) (cVar 4) (cVar 1))) (cVar 0)) (cC (.int 1))) (cCons (cVar 0) cNil))))
    (cSet 3 (cBin (dAdd frzL) (cVar 3) (cBin (dMul frzL) (cBin (dMul frzL) (cBin dSub (cC (.int 1)) (cBin (dMul frzL) (cC (.int 2)) (cBin dMod (cVar 4) (cC (.int 2))))) (cCall m__law_picked (cCons (cVar 0) (cCons (cVar 4) cNil)))) (cVar 5))))))
    (cRet (cVar 3))))
noncomputable def m__law_many : MF := cFun 3 (cRet (cBin dSub (cCall m__law_below (cCons (cVar 0) (cCons (cVar 1) (cCons (cBin (dAdd frzL) (cBin (dMul frzL) (cVar 2) (cVar 1)) (cVar 1)) cNil)))) (cCall m__law_below (cCons (cVar 0) (cCons (cVar 1) (cCons (cBin (dMul frzL) (cVar 2) (cVar 1)) cNil))))))
noncomputable def m__law_kind_of : MF := cFun 2 (cSeq (cSet 1 (cCall (dLst frzL) (cCons (cUn (dIsC "NoOrder") (cVar 0)) (cCons (cUn (dIsC "NoNumber") (cVar 0)) (cCons (cUn (dIsC "NoSet") (cVar 0)) (cCons (cUn (dIsC "NoRow") (cVar 0)) cNil))))))
    (cSeq (cSet 1 (cBin (dAdd frzL) (cVar 1) (cCall (dLst frzL) (cCons (cUn (dIsC "NoLine") (cVar 0)) (cCons (cUn (dIsC "NoText") (cVar 0)) (cCons (cUn (dIsC "TooGreat") (cVar 0)) cNil))))))
    (cSeq (cIfS (cOrT (cNotT (cTest dTru (cUn dIsV (cVar 0)))) (cTest asB (cBin dNe (cMethL dCountB (cVar 1) (cCons (cC (.bl true)) cNil)) (cC (.int 1))))) (cRet (cC (.str "other"))) cSkip)
    (cRet (cBin dIx (cCall (dLst frzL) (cCons (cC (.str "order")) (cCons (cC (.str "number")) (cCons (cC (.str "set")) (cCons (cC (.str "row")) (cCons (cC (.str "line")) (cCons (cC (.str "text")) (cCons (cC (.str "great")) cNil)))))))) (cMethL dIndexB (cVar 1) (cCons (cC (.bl true)) cNil)))))))
noncomputable def m__law_refused : MF := cFun 2 (cSeq (cSet 1 (cCall m__law_kind_of (cCons (cVar 0) cNil)))
    (cSeq (cIfS (cTest asB (cBin dEq (cVar 1) (cC (.str "text")))) (cRet (cCall dTup (cCons (cVar 1) (cCons (cUn (dFld "NoText" "row") (cVar 0)) cNil)))) cSkip)
    (cRet (cIf (cTest asB (cBin dEq (cVar 1) (cC (.str "great")))) (cCall dTup (cCons (cVar 1) (cCons (cUn (dFld "TooGreat" "many") (cVar 0)) (cCons (cUn (dFld "TooGreat" "most") (cVar 0)) cNil)))) (cCall dTup (cCons (cVar 1) cNil))))))
noncomputable def e_number_needed : MF := cFun 3 (cIfS (up (cNotT (cTest dTru (cCall m_is_within (cCons (cVar 0) (cCons (cVar 1) (cCons (cVar 2) cNil))))))) (cRaise "NoNumber") cSkip)
noncomputable def e_slab_needed : MF := cFun 3 (cSeq (cExpr (cCall e_number_needed (cCons (up (cVar 0)) (cCons (up (cC (.int 1))) (cCons (up (cC (.int 8))) cNil)))))
    (cSeq (cExpr (cCall e_number_needed (cCons (up (cVar 1)) (cCons (up (cC (.int 1))) (cCons (up (cC (.int 20))) cNil)))))
    (cExpr (cCall e_number_needed (cCons (up (cVar 2)) (cCons (up (cC (.int 0))) (cCons (up (cC (.int 8))) cNil)))))))
noncomputable def e_told_needed : MF := cFun 1 (cIfS (up (cTest asB (cBin dGt (cVar 0) (cC (.int 300))))) (cRaiseI "TooGreat" ["many", "most"] (cCons (up (cVar 0)) (cCons (up (cC (.int 300))) cNil))) cSkip)
noncomputable def e_slab_all : MF := fun ds h => ((cFun 8 (cSeq (cExpr (cCall e_slab_needed (cCons (up (cVar 0)) (cCons (up (cVar 1)) (cCons (up (cVar 2)) cNil)))))
    (cSeq (cExpr (cCall e_told_needed (cCons (up (cCall m_slab_count (cCons (cVar 0) (cCons (cVar 1) (cCons (cVar 2) cNil))))) cNil)))
    (cSeq (up (cSet 3 (cCall (dLst frzL) (cCons (cCall dTup cNil) cNil))))
    (cSeq (up (cFor (cRng rngI3 (cCons (cBin dSub (cVar 0) (cC (.int 1))) (cCons (cUn dNeg (cC (.int 1))) (cCons (cUn dNeg (cC (.int 1))) cNil)))) (gN 4) (cSeq (cSet 5 (cBin dSub (cBin (dMul frzL) (cVar 2) (cVar 1)) (cBin (dMul frzL) (cVar 4) (cBin dSub (cVar 1) (cC (.int 1))))))
    (cSeq (cSet 6 (cBin dSub (cBin (dAdd frzL) (cBin (dMul frzL) (cVar 2) (cVar 1)) (cVar 1)) (cC (.int 1))))
    (cSeq (cSet 7 (cComp2 (cSeqI (cVar 3)) [1] (cRng rng1 (cCons (cVar 2) cNil)) (cBin (dAdd frzL) (cVar 0) (cCall dTup (cCons (cVar 1) cNil)))))
    (cSet 3 (cComp frzL (cSeqI (cVar 7)) [5, 6] (cTest asB (cChain dLe dLe (cVar 1) (cCall dSum (cCons (cVar 0) cNil)) (cVar 2))) (cVar 0))))))))
    (up (cRet (cVar 3)))))))) ds h).bind (exitF h)
noncomputable def m__law_told : MF := cFun 4 (cTry (cRet (cCall e_slab_all (cCons (up (cVar 0)) (cCons (up (cVar 1)) (cCons (up (cVar 2)) cNil))))) m__law_refused)
noncomputable def m__law_cells : MF := locF (fun ds h => ((cFun 6 (cSeq (cSet 2 (cCall (dLst frzL) (cCons (cCall dTup cNil) cNil)))
    (cSeq (cFor (cRng rng1 (cCons (cVar 0) cNil)) (gN 3) (cSeq (cSet 4 (cCall (dLst newL) cNil))
    (cSeq (cFor (cSeqI (cVar 2)) (gN 5) (cExpr (cMethL dExtend (cVar 4) (cCons (cComp frzL (cRng rng1 (cCons (cVar 1) cNil)) [5] tt1 (cBin (dAdd frzL) (cVar 1) (cCall dTup (cCons (cVar 0) cNil)))) cNil))))
    (cSet 2 (cVar 4)))))
    (cRet (cVar 2))))) ds h).bind (exitF h))
noncomputable def er_slab_all : MF := fun ds h => ((cFun 8 (cSeq (cExpr (cCall e_slab_needed (cCons (up (cVar 0)) (cCons (up (cVar 1)) (cCons (up (cVar 2)) cNil)))))
    (cSeq (cExpr (cCall e_told_needed (cCons (up (cCall m_slab_count (cCons (cVar 0) (cCons (cVar 1) (cCons (cVar 2) cNil))))) cNil)))
    (cSeq (up (cSet 3 (cCall (dLst newL) (cCons (cCall dTup cNil) cNil))))
    (cSeq (up (cFor (cRng rngI3 (cCons (cBin dSub (cVar 0) (cC (.int 1))) (cCons (cUn dNeg (cC (.int 1))) (cCons (cUn dNeg (cC (.int 1))) cNil)))) (gN 4) (cSeq (cSet 5 (cBin dSub (cBin (dMul frzL) (cVar 2) (cVar 1)) (cBin (dMul frzL) (cVar 4) (cBin dSub (cVar 1) (cC (.int 1))))))
    (cSeq (cSet 6 (cBin dSub (cBin (dAdd frzL) (cBin (dMul frzL) (cVar 2) (cVar 1)) (cVar 1)) (cC (.int 1))))
    (cSeq (cSet 7 (cComp2 (cSeqI (cVar 3)) [1] (cRng rng1 (cCons (cVar 2) cNil)) (cBin (dAdd frzL) (cVar 0) (cCall dTup (cCons (cVar 1) cNil)))))
    (cSet 3 (cComp newL (cSeqI (cVar 7)) [5, 6] (cTest asB (cChain dLe dLe (cVar 1) (cCall dSum (cCons (cVar 0) cNil)) (cVar 2))) (cVar 0))))))))
    (up (cRet (cVar 3)))))))) ds h).bind (exitR h)
noncomputable def r__law_told : MF := fun ds h => ((cFun 4 (cTry (cRet (cCall er_slab_all (cCons (up (cVar 0)) (cCons (up (cVar 1)) (cCons (up (cVar 2)) cNil))))) m__law_refused)) ds h).bind (exitQ h)
noncomputable def m_law : MF := fun ds h => ((cFun 12 (cSeq (cFor (cEnumI (cBin (dAdd frzL) (cCall (dLst frzL) (cCons (cCall m__law_cell_at (cCons (cVar 0) (cCons (cC (.int 0)) cNil))) cNil)) (cSlice frzL (cVar 0) (cPart (cC (.int 1))) (cPart (cC (.int 5)))))) (gT2 1 2) (cSeq (cSet 3 (cCall r__law_pen_of (cCons (cVar 2) cNil)))
    (cSeq (cUn3 4 5 6 (cCall dTup (cCons (cCall m__law_draw (cCons (cVar 3) (cCons (cC (.int 2)) cNil))) (cCons (cBin (dAdd frzL) (cC (.int 1)) (cCall m__law_draw (cCons (cVar 3) (cCons (cC (.int 8)) cNil)))) (cCons (cBin (dAdd frzL) (cC (.int 1)) (cCall m__law_draw (cCons (cVar 3) (cCons (cC (.int 20)) cNil)))) cNil)))))
    (cSeq (cSet 7 (cBin dIx (cCall (dLst frzL) (cCons (cCall m__law_draw (cCons (cVar 3) (cCons (cC (.int 9)) cNil))) (cCons (cCall m__law_draw (cCons (cVar 3) (cCons (cVar 5) cNil))) cNil))) (cVar 4)))
    (cSeq (cIfS (cTest asB (cBin dNe (cCall dReprY (cCons (cCall m_slab_many (cCons (cVar 5) (cCons (cVar 6) (cCons (cVar 7) cNil)))) cNil)) (cCall dReprY (cCons (cCall m__law_many (cCons (cVar 5) (cCons (cVar 6) (cCons (cVar 7) cNil)))) cNil)))) (cRet (cC (.bl false))) cSkip)
    (cSeq (cSet 8 (cCall m__law_many (cCons (cVar 5) (cCons (cVar 6) (cCons (cVar 7) cNil)))))
    (cSeq (cIfS (cAndT (cTest asB (cBin dGt (cVar 8) (cC (.int 300)))) (cTest asB (cBin dNe (cCall m__law_told (cCons (cVar 5) (cCons (cVar 6) (cCons (cVar 7) cNil)))) (cCall dTup (cCons (cC (.str "great")) (cCons (cVar 8) (cCons (cC (.int 300)) cNil))))))) (cRet (cC (.bl false))) cSkip)
    (cIfS (cTest asB (cBin dEq (cVar 1) (cC (.int 0)))) (cSeq (cUn2 5 6 (cBin dIx (cCall (dLst frzL) (cCons (cCall dTup (cCons (cC (.int 8)) (cCons (cC (.int 2)) cNil))) (cCons (cCall dTup (cCons (cC (.int 8)) (cCons (cC (.int 3)) cNil))) (cCons (cCall dTup (cCons (cC (.int 5)) (cCons (cC (.int 5)) cNil))) (cCons (cCall dTup (cCons (cC (.int 4)) (cCons (cC (.int 8)) cNil))) (cCons (cCall dTup (cCons (cC (.int 3)) (cCons (cC (.int 15)) cNil))) (cCons (cCall dTup (cCons (cC (.int 2)) (cCons (cC (.int 20)) cNil))) (cCons (cCall dTup (cCons (cC (.int 1)) (cCons (cC (.int 20)) cNil))) (cCons (cCall dTup (cCons (cC (.int 6)) (cCons (cC (.int 4)) cNil))) cNil))))))))) (cCall m__law_draw (cCons (cVar 3) (cCons (cC (.int 8)) cNil)))))
    (cSeq (cSet 7 (cCall m__law_draw (cCons (cVar 3) (cCons (cBin (dAdd frzL) (cVar 5) (cC (.int 1))) cNil))))
    (cSeq (cSet 9 (cComp frzL (cSeqI (cCall m__law_cells (cCons (cVar 5) (cCons (cVar 6) cNil)))) [6, 7] (cTest asB (cBin dEq (cBin dDiv (cCall dSum (cCons (cVar 0) cNil)) (cVar 1)) (cVar 2))) (cVar 0)))
    (cSeq (cIfS (cTest asB (cBin dNe (cCall dReprY (cCons (cCall m_slab_many (cCons (cVar 5) (cCons (cVar 6) (cCons (cVar 7) cNil)))) cNil)) (cCall dReprY (cCons (cCall dLen (cCons (cVar 9) cNil)) cNil)))) (cRet (cC (.bl false))) cSkip)
    (cSeq (cIfS (cTest asB (cBin dGt (cCall dLen (cCons (cVar 9) cNil)) (cC (.int 300)))) (cSet 9 (cCall dTup (cCons (cC (.str "great")) (cCons (cCall dLen (cCons (cVar 9) cNil)) (cCons (cC (.int 300)) cNil))))) cSkip)
    (cFor (cRng rng1 (cCons (cC (.int 2)) cNil)) (gN 10) (cSeq (cSet 11 (cCall r__law_told (cCons (cVar 5) (cCons (cVar 6) (cCons (cVar 7) cNil)))))
    (cSeq (cIfS (cTest asB (cBin dNe (cCall dReprY (cCons (cVar 11) cNil)) (cCall dReprY (cCons (cVar 9) cNil)))) (cRet (cC (.bl false))) cSkip)
    (cIfS (cTest dTru (cUn (dIsI "list") (cVar 11))) (cExpr (cMethL dAppend (cVar 11) (cCons (cCall dTup cNil) cNil))) cSkip))))))))) cSkip))))))))
    (cRet (cC (.bl true))))) ds h).bind (exitF h)
end FC
namespace FC
open PySem L2 L2.FE
noncomputable def topS (i : Nat) : Stmt := PySem.Challenge.pw_fallcounts_k52_slabs_counted.main.body.getD i (.Pass ⟨0, 0, 0, 0⟩)
structure Blt (mg : Str → Option Value) : Prop where
  ValueError : mg "ValueError" = none
  bool : mg "bool" = none
  enumerate : mg "enumerate" = none
  int : mg "int" = none
  isinstance : mg "isinstance" = none
  len : mg "len" = none
  list : mg "list" = none
  max : mg "max" = none
  range : mg "range" = none
  repr : mg "repr" = none
  sum : mg "sum" = none
section
variable {P : Program} {w : World} {K : PySem.W.Frag} {mg : Str → Option Value} {base : Heap} {g : GG}
theorem sc__law_cell_at : FnScope ["_law_script", "_law_k"] ["_law_script", "_law_k"] (defScope (topS 24)) := ⟨rfl, rfl, rfl, by decide +kernel, rfl, by decide +kernel, by decide +kernel⟩
theorem h_m__law_cell_at (D : DefAt K mg "_law_cell_at" (topS 24)) (T : Blt mg) : Has P w K mg base g "_law_cell_at" 1 ["_law_script", "_law_k"] m__law_cell_at := by
  obtain ⟨f, fd, hm, F⟩ := D
  refine ⟨f, fd, fn_m F sc__law_cell_at (fun cdv A outer s H E hr => ?_), F.kp, F.binds (fun _ _ _ _ _ _ us hl => bnd2 hl fun _ _ => rfl), hm, look_of F⟩
  exact (@ss_cons _ _ _ _ _ _ _ (@s_if _ _ _ _ _ _ _ _ _ _ (@st_cmp _ _ _ _ _ _ _ _ _ _ _ op_lt im_lt (se_var 1) (se_callB or_len im_len rfl T.len PySem.boot_len (@sa_cons _ _ _ _ _ _ _ (se_var 0) sa_nil rfl)) (nomark _)) (@ss_one _ _ _ _ _ (@s_ret _ _ _ _ _ _ (@se_ix _ _ _ _ _ _ _ _ _ _ ix_seq im_ix (se_var 0) (se_var 1) (fun _ _ => rfl)))) ss_skip)
      (@ss_one _ _ _ _ _ (@s_ret _ _ _ _ _ _ se_int)))
theorem sc__law_pen_of : FnScope ["_law_cell", "_law_left"] ["_law_cell"] (defScope (topS 26)) := ⟨rfl, rfl, rfl, by decide +kernel, rfl, by decide +kernel, by decide +kernel⟩
theorem h_r__law_pen_of (D : DefAt K mg "_law_pen_of" (topS 26)) (T : Blt mg) : Has P w K mg base g "_law_pen_of" 1 ["_law_cell"] r__law_pen_of := by
  obtain ⟨f, fd, hm, F⟩ := D
  refine ⟨f, fd, fn_m F sc__law_pen_of (fun cdv A outer s H E hr => ?_), F.kp, F.binds (fun _ _ _ _ _ _ us hl => bnd1 hl fun _ => rfl), hm, look_of F⟩
  exact (@ss_cons _ _ _ _ _ _ _ (@s_set _ _ _ _ _ _ 1 _ _ sc__law_pen_of.nd rfl (by first | exact Or.inl rfl | exact Or.inr rfl) (se_callB (call_max2 rfl) im_max2 rfl T.max PyProof.Rows.boot_max (@sa_cons _ _ _ _ _ _ _ (se_var 0) (@sa_cons _ _ _ _ _ _ _ (@se_bin _ _ _ _ _ _ _ _ _ _ _ op_sub im_sub se_int (se_var 0)) sa_nil rfl) rfl)) rfl (by first | exact Or.inl rfl | exact Or.inr rfl | assumption))
      (@ss_one _ _ _ _ _ (@s_ret _ _ _ _ _ _ (@se_lst _ _ _ _ _ _ _ _ (@sa_cons _ _ _ _ _ _ _ (se_var 1) (@sa_cons _ _ _ _ _ _ _ (se_callTy call_int1 im_int rfl T.int PyProof.Rows.boot_int (@sa_cons _ _ _ _ _ _ _ (@se_cmp _ _ _ _ _ _ _ _ _ _ _ op_ge im_ge (se_var 1) (@se_bin _ _ _ _ _ _ _ _ _ _ _ op_powS im_pow se_int se_int) (nomark _)) sa_nil rfl)) (@sa_cons _ _ _ _ _ _ _ (@se_bin _ _ _ _ _ _ _ _ _ _ _ op_mod im_mod (se_var 1) se_int) sa_nil rfl) rfl) rfl)))))
theorem sc__law_next : FnScope ["_law_seed"] ["_law_seed"] (defScope (topS 25)) := ⟨rfl, rfl, rfl, by decide +kernel, rfl, by decide +kernel, by decide +kernel⟩
theorem h_m__law_next (D : DefAt K mg "_law_next" (topS 25)) (T : Blt mg) : Has P w K mg base g "_law_next" 1 ["_law_seed"] m__law_next := by
  obtain ⟨f, fd, hm, F⟩ := D
  refine ⟨f, fd, fn_m F sc__law_next (fun cdv A outer s H E hr => ?_), F.kp, F.binds (fun _ _ _ _ _ _ us hl => bnd1 hl fun _ => rfl), hm, look_of F⟩
  exact (@ss_cons _ _ _ _ _ _ _ (@s_set _ _ _ _ _ _ 0 _ _ sc__law_next.nd rfl (by first | exact Or.inl rfl | exact Or.inr rfl) (@se_bin _ _ _ _ _ _ _ _ _ _ _ op_mod im_mod (@se_bin _ _ _ _ _ _ _ _ _ _ _ or_add im_add (se_var 0) se_int) se_int) rfl (by first | exact Or.inl rfl | exact Or.inr rfl | assumption))
      (@ss_one _ _ _ _ _ (@s_ret _ _ _ _ _ _ (@se_bin _ _ _ _ _ _ _ _ _ _ _ op_mod im_mod (@se_bin _ _ _ _ _ _ _ _ _ _ _ or_add im_add (@se_bin _ _ _ _ _ _ _ _ _ _ _ or_add im_add (@se_bin _ _ _ _ _ _ _ _ _ _ _ or_mul im_mul (se_var 0) (se_var 0)) (@se_bin _ _ _ _ _ _ _ _ _ _ _ or_mul im_mul se_int (se_var 0))) se_int) se_int))))
theorem sc__law_draw : FnScope ["_law_pen", "_law_many_here", "_law_found"] ["_law_pen", "_law_many_here"] (defScope (topS 27)) := ⟨rfl, rfl, rfl, by decide +kernel, rfl, by decide +kernel, by decide +kernel⟩
theorem h_m__law_draw (D : DefAt K mg "_law_draw" (topS 27)) (T : Blt mg) (H_m__law_next : Has P w K mg base g "_law_next" 1 ["_law_seed"] m__law_next) : Has P w K mg base g "_law_draw" 2 ["_law_pen", "_law_many_here"] m__law_draw := by
  obtain ⟨f, fd, hm, F⟩ := D
  obtain ⟨f_m__law_next, fd_m__law_next, G_m__law_next, K_m__law_next, B_m__law_next, M_m__law_next, _⟩ := H_m__law_next
  refine ⟨f, fd, fn_m F sc__law_draw (fun cdv A outer s H E hr => ?_), F.kp, F.binds (fun _ _ _ _ _ _ us hl => bnd2 hl fun _ _ => rfl), hm, look_of F⟩
  exact (@ss_cons _ _ _ _ _ _ _ (@s_if _ _ _ _ _ _ _ _ _ _ (PW.pt (@sw_and _ _ _ _ _ _ _ _ _ (@st_cmp _ _ _ _ _ _ _ _ _ _ _ (op_eqG hr.units) im_eq (@se_ix _ _ _ _ _ _ _ _ _ _ ix_seq im_ix (se_var 0) se_int (fun _ _ => rfl)) se_int (nomark _)) (@sw_and1 _ _ _ _ _ _ (@st_cmp _ _ _ _ _ _ _ _ _ _ _ op_gt im_gt (@se_ix _ _ _ _ _ _ _ _ _ _ ix_seq im_ix (se_var 0) se_int (fun _ _ => rfl)) se_int (nomark _))))) (@ss_cons _ _ _ _ _ _ _ (@s_set _ _ _ _ _ _ 2 _ _ sc__law_draw.nd rfl (by first | exact Or.inl rfl | exact Or.inr rfl) (@se_bin _ _ _ _ _ _ _ _ _ _ _ op_mod im_mod (@se_ix _ _ _ _ _ _ _ _ _ _ ix_seq im_ix (se_var 0) se_int (fun _ _ => rfl)) (se_var 1)) rfl (by first | exact Or.inl rfl | exact Or.inr rfl | assumption))
      (@ss_cons _ _ _ _ _ _ _ (s_setIx (@se_bin _ _ _ _ _ _ _ _ _ _ _ op_fdivS im_div (@se_ix _ _ _ _ _ _ _ _ _ _ ix_seq im_ix (se_var 0) se_int (fun _ _ => rfl)) (se_var 1)) (se_var 0) se_int set_list im_setIx)
      (@ss_one _ _ _ _ _ (@s_ret _ _ _ _ _ _ (se_var 2))))) ss_skip)
      (@ss_cons _ _ _ _ _ _ _ (s_setIx (se_call (G_m__law_next.mono (by decide)) hr rfl M_m__law_next K_m__law_next B_m__law_next (@sa_cons _ _ _ _ _ _ _ (@se_bin _ _ _ _ _ _ _ _ _ _ _ or_add im_add (se_call (G_m__law_next.mono (by decide)) hr rfl M_m__law_next K_m__law_next B_m__law_next (@sa_cons _ _ _ _ _ _ _ (@se_ix _ _ _ _ _ _ _ _ _ _ ix_seq im_ix (se_var 0) se_int (fun _ _ => rfl)) sa_nil rfl) (len_cons len_nil)) se_int) sa_nil rfl) (len_cons len_nil)) (se_var 0) se_int set_list im_setIx)
      (@ss_one _ _ _ _ _ (@s_ret _ _ _ _ _ _ (@se_bin _ _ _ _ _ _ _ _ _ _ _ op_mod im_mod (@se_bin _ _ _ _ _ _ _ _ _ _ _ op_fdivS im_div (@se_ix _ _ _ _ _ _ _ _ _ _ ix_seq im_ix (se_var 0) se_int (fun _ _ => rfl)) se_int) (se_var 1))))))
theorem sc_is_whole : FnScope ["thing"] ["thing"] (defScope (topS 10)) := ⟨rfl, rfl, rfl, by decide +kernel, rfl, by decide +kernel, by decide +kernel⟩
theorem h_m_is_whole (D : DefAt K mg "is_whole" (topS 10)) (T : Blt mg) : Has P w K mg base g "is_whole" 1 ["thing"] m_is_whole := by
  obtain ⟨f, fd, hm, F⟩ := D
  refine ⟨f, fd, fn_m F sc_is_whole (fun cdv A outer s H E hr => ?_), F.kp, F.binds (fun _ _ _ _ _ _ us hl => bnd1 hl fun _ => rfl), hm, look_of F⟩
  exact (@ss_one _ _ _ _ _ (@s_ret _ _ _ _ _ _ (@se_and _ _ _ _ _ _ _ _ _ (se_isi (se_var 0) rfl T.isinstance rfl T.int PyProof.Rows.boot_int) (@se_one _ _ _ _ _ _ _ (@se_not _ _ _ _ _ _ (se_isi (se_var 0) rfl T.isinstance rfl T.bool PyProof.Rows.boot_bool))))))
theorem sc_is_within : FnScope ["thing", "least", "most"] ["thing", "least", "most"] (defScope (topS 11)) := ⟨rfl, rfl, rfl, by decide +kernel, rfl, by decide +kernel, by decide +kernel⟩
theorem h_m_is_within (D : DefAt K mg "is_within" (topS 11)) (T : Blt mg) (H_m_is_whole : Has P w K mg base g "is_whole" 1 ["thing"] m_is_whole) : Has P w K mg base g "is_within" 2 ["thing", "least", "most"] m_is_within := by
  obtain ⟨f, fd, hm, F⟩ := D
  obtain ⟨f_m_is_whole, fd_m_is_whole, G_m_is_whole, K_m_is_whole, B_m_is_whole, M_m_is_whole, _⟩ := H_m_is_whole
  refine ⟨f, fd, fn_m F sc_is_within (fun cdv A outer s H E hr => ?_), F.kp, F.binds (fun _ _ _ _ _ _ us hl => bnd3 hl fun _ _ _ => rfl), hm, look_of F⟩
  exact (@ss_one _ _ _ _ _ (@s_ret _ _ _ _ _ _ (@se_and _ _ _ _ _ _ _ _ _ (se_call (G_m_is_whole.mono (by decide)) hr rfl M_m_is_whole K_m_is_whole B_m_is_whole (@sa_cons _ _ _ _ _ _ _ (se_var 0) sa_nil rfl) (len_cons len_nil)) (@se_one _ _ _ _ _ _ _ (se_chain op_le op_le im_le im_le (se_var 1) (se_var 0) (se_var 2))))))
theorem sc_number_needed : FnScope ["thing", "least", "most"] ["thing", "least", "most"] (defScope (topS 12)) := ⟨rfl, rfl, rfl, by decide +kernel, rfl, by decide +kernel, by decide +kernel⟩
theorem h_m_number_needed (D : DefAt K mg "number_needed" (topS 12)) (T : Blt mg) (H_m_is_within : Has P w K mg base g "is_within" 2 ["thing", "least", "most"] m_is_within) : Has P w K mg base g "number_needed" 3 ["thing", "least", "most"] m_number_needed := by
  obtain ⟨f, fd, hm, F⟩ := D
  obtain ⟨f_m_is_within, fd_m_is_within, G_m_is_within, K_m_is_within, B_m_is_within, M_m_is_within, _⟩ := H_m_is_within
  refine ⟨f, fd, fn_m F sc_number_needed (fun cdv A outer s H E hr => ?_), F.kp, F.binds (fun _ _ _ _ _ _ us hl => bnd3 hl fun _ _ _ => rfl), hm, look_of F⟩
  exact (@ss_one _ _ _ _ _ (@s_if _ _ _ _ _ _ _ _ _ _ (@st_not _ _ _ _ _ _ (@st_truth _ _ _ _ _ _ im_tru (se_call (G_m_is_within.mono (by decide)) hr rfl M_m_is_within K_m_is_within B_m_is_within (@sa_cons _ _ _ _ _ _ _ (se_var 0) (@sa_cons _ _ _ _ _ _ _ (se_var 1) (@sa_cons _ _ _ _ _ _ _ (se_var 2) sa_nil rfl) rfl) rfl) (len_cons (len_cons (len_cons len_nil)))) (fun _ => rfl))) (@ss_one _ _ _ _ _ (PS.imp ps_never fun E σ H ⟨α, env, h, s, w⟩ => w.elim)) ss_skip))
theorem sc_slab_needed : FnScope ["n", "m", "k"] ["n", "m", "k"] (defScope (topS 21)) := ⟨rfl, rfl, rfl, by decide +kernel, rfl, by decide +kernel, by decide +kernel⟩
theorem h_m_slab_needed (D : DefAt K mg "slab_needed" (topS 21)) (T : Blt mg) {t_MOST_LONG : Tok} (c_MOST_LONG : mg "MOST_LONG" = some (.int 8 t_MOST_LONG)) {t_MOST_WIDE : Tok} (c_MOST_WIDE : mg "MOST_WIDE" = some (.int 20 t_MOST_WIDE)) (H_m_number_needed : Has P w K mg base g "number_needed" 3 ["thing", "least", "most"] m_number_needed) : Has P w K mg base g "slab_needed" 4 ["n", "m", "k"] m_slab_needed := by
  obtain ⟨f, fd, hm, F⟩ := D
  obtain ⟨f_m_number_needed, fd_m_number_needed, G_m_number_needed, K_m_number_needed, B_m_number_needed, M_m_number_needed, _⟩ := H_m_number_needed
  refine ⟨f, fd, fn_m F sc_slab_needed (fun cdv A outer s H E hr => ?_), F.kp, F.binds (fun _ _ _ _ _ _ us hl => bnd3 hl fun _ _ _ => rfl), hm, look_of F⟩
  exact (@ss_cons _ _ _ _ _ _ _ (s_expr (se_call (G_m_number_needed.mono (by decide)) hr rfl M_m_number_needed K_m_number_needed B_m_number_needed (@sa_cons _ _ _ _ _ _ _ (se_var 0) (@sa_cons _ _ _ _ _ _ _ se_int (@sa_cons _ _ _ _ _ _ _ (se_globI rfl c_MOST_LONG) sa_nil rfl) rfl) rfl) (len_cons (len_cons (len_cons len_nil)))))
      (@ss_cons _ _ _ _ _ _ _ (s_expr (se_call (G_m_number_needed.mono (by decide)) hr rfl M_m_number_needed K_m_number_needed B_m_number_needed (@sa_cons _ _ _ _ _ _ _ (se_var 1) (@sa_cons _ _ _ _ _ _ _ se_int (@sa_cons _ _ _ _ _ _ _ (se_globI rfl c_MOST_WIDE) sa_nil rfl) rfl) rfl) (len_cons (len_cons (len_cons len_nil)))))
      (@ss_one _ _ _ _ _ (s_expr (se_call (G_m_number_needed.mono (by decide)) hr rfl M_m_number_needed K_m_number_needed B_m_number_needed (@sa_cons _ _ _ _ _ _ _ (se_var 2) (@sa_cons _ _ _ _ _ _ _ se_int (@sa_cons _ _ _ _ _ _ _ (se_globI rfl c_MOST_LONG) sa_nil rfl) rfl) rfl) (len_cons (len_cons (len_cons len_nil))))))))
theorem sc_slab_count : FnScope ["n", "m", "k", "counts", "place", "longer", "total", "many", "number"] ["n", "m", "k"] (defScope (topS 22)) := ⟨rfl, rfl, rfl, by decide +kernel, rfl, by decide +kernel, by decide +kernel⟩
theorem h_m_slab_count (D : DefAt K mg "slab_count" (topS 22)) (T : Blt mg) : Has P w K mg base g "slab_count" 1 ["n", "m", "k"] m_slab_count := by
  obtain ⟨f, fd, hm, F⟩ := D
  refine ⟨f, fd, fn_loc (fn_exit (fn_m F sc_slab_count (fun cdv A outer s H E hr => ?_))), F.kp, F.binds (fun _ _ _ _ _ _ us hl => bnd3 hl fun _ _ _ => rfl), hm, look_of F⟩
  exact (@ss_cons _ _ _ _ _ _ _ (@s_set _ _ _ _ _ _ 3 _ _ sc_slab_count.nd rfl (by first | exact Or.inl rfl | exact Or.inr rfl) (@se_lst _ _ _ _ _ _ _ _ (@sa_cons _ _ _ _ _ _ _ se_int sa_nil rfl)) rfl (by first | exact Or.inl rfl | exact Or.inr rfl | assumption))
      (@ss_cons _ _ _ _ _ _ _ (s_for PassesOwn.never rfl (si_rng1 rfl T.range (@sa_cons _ _ _ _ _ _ _ (se_var 0) sa_nil rfl)) (pg_name (i := 4) sc_slab_count.nd rfl (by first | exact Or.inl rfl | exact Or.inr rfl)) ig_name (@ss_cons _ _ _ _ _ _ _ (@s_set _ _ _ _ _ _ 5 _ _ sc_slab_count.nd rfl (by first | exact Or.inl rfl | exact Or.inr rfl) (@se_bin _ _ _ _ _ _ _ _ _ _ _ or_mul im_mul (@se_lst _ _ _ _ _ _ _ _ (@sa_cons _ _ _ _ _ _ _ se_int sa_nil rfl)) (@se_bin _ _ _ _ _ _ _ _ _ _ _ op_sub im_sub (@se_bin _ _ _ _ _ _ _ _ _ _ _ or_add im_add (se_callB or_len im_len rfl T.len PySem.boot_len (@sa_cons _ _ _ _ _ _ _ (se_var 3) sa_nil rfl)) (se_var 1)) se_int)) rfl (by first | exact Or.inl rfl | exact Or.inr rfl | assumption))
      (@ss_cons _ _ _ _ _ _ _ (s_for PassesOwn.never rfl (si_enum rfl T.enumerate (se_var 3)) (pg_tup rfl (pgs_cons (pg_name (i := 6) sc_slab_count.nd rfl (by first | exact Or.inl rfl | exact Or.inr rfl)) (pgs_cons (pg_name (i := 7) sc_slab_count.nd rfl (by first | exact Or.inl rfl | exact Or.inr rfl)) pgs_nil))) ig_two (@ss_one _ _ _ _ _ (s_for PassesOwn.never rfl (si_rng1 rfl T.range (@sa_cons _ _ _ _ _ _ _ (se_var 1) sa_nil rfl)) (pg_name (i := 8) sc_slab_count.nd rfl (by first | exact Or.inl rfl | exact Or.inr rfl)) ig_name (@ss_one _ _ _ _ _ (s_augIx (se_var 5) (@se_bin _ _ _ _ _ _ _ _ _ _ _ or_add im_add (se_var 6) (se_var 8)) (se_var 7))))))
      (@ss_one _ _ _ _ _ (@s_set _ _ _ _ _ _ 3 _ _ sc_slab_count.nd rfl (by first | exact Or.inl rfl | exact Or.inr rfl) (se_var 5) rfl (by first | exact Or.inl rfl | exact Or.inr rfl | assumption))))))
      (@ss_one _ _ _ _ _ (@s_ret _ _ _ _ _ _ (se_callB (call_sumL rfl) im_sum rfl T.sum PyProof.Rows.boot_sum (@sa_cons _ _ _ _ _ _ _ (se_slice (se_var 3) (@so_some _ _ _ _ _ (@se_bin _ _ _ _ _ _ _ _ _ _ _ or_mul im_mul (se_var 2) (se_var 1))) (@so_some _ _ _ _ _ (@se_bin _ _ _ _ _ _ _ _ _ _ _ or_add im_add (@se_bin _ _ _ _ _ _ _ _ _ _ _ or_mul im_mul (se_var 2) (se_var 1)) (se_var 1)))) sa_nil rfl))))))
theorem sc_slab_many : FnScope ["n", "m", "k"] ["n", "m", "k"] (defScope (topS 19)) := ⟨rfl, rfl, rfl, by decide +kernel, rfl, by decide +kernel, by decide +kernel⟩
theorem h_m_slab_many (D : DefAt K mg "slab_many" (topS 19)) (T : Blt mg) (H_m_slab_needed : Has P w K mg base g "slab_needed" 4 ["n", "m", "k"] m_slab_needed) (H_m_slab_count : Has P w K mg base g "slab_count" 1 ["n", "m", "k"] m_slab_count) : Has P w K mg base g "slab_many" 5 ["n", "m", "k"] m_slab_many := by
  obtain ⟨f, fd, hm, F⟩ := D
  obtain ⟨f_m_slab_needed, fd_m_slab_needed, G_m_slab_needed, K_m_slab_needed, B_m_slab_needed, M_m_slab_needed, _⟩ := H_m_slab_needed
  obtain ⟨f_m_slab_count, fd_m_slab_count, G_m_slab_count, K_m_slab_count, B_m_slab_count, M_m_slab_count, _⟩ := H_m_slab_count
  refine ⟨f, fd, fn_m F sc_slab_many (fun cdv A outer s H E hr => ?_), F.kp, F.binds (fun _ _ _ _ _ _ us hl => bnd3 hl fun _ _ _ => rfl), hm, look_of F⟩
  exact (@ss_cons _ _ _ _ _ _ _ (s_expr (se_call (G_m_slab_needed.mono (by decide)) hr rfl M_m_slab_needed K_m_slab_needed B_m_slab_needed (@sa_cons _ _ _ _ _ _ _ (se_var 0) (@sa_cons _ _ _ _ _ _ _ (se_var 1) (@sa_cons _ _ _ _ _ _ _ (se_var 2) sa_nil rfl) rfl) rfl) (len_cons (len_cons (len_cons len_nil)))))
      (@ss_one _ _ _ _ _ (@s_ret _ _ _ _ _ _ (se_call (G_m_slab_count.mono (by decide)) hr rfl M_m_slab_count K_m_slab_count B_m_slab_count (@sa_cons _ _ _ _ _ _ _ (se_var 0) (@sa_cons _ _ _ _ _ _ _ (se_var 1) (@sa_cons _ _ _ _ _ _ _ (se_var 2) sa_nil rfl) rfl) rfl) (len_cons (len_cons (len_cons len_nil)))))))
theorem sc__law_picked : FnScope ["_law_x", "_law_n", "_law_top", "_law_bottom", "_law_turn"] ["_law_x", "_law_n"] (defScope (topS 30)) := ⟨rfl, rfl, rfl, by decide +kernel, rfl, by decide +kernel, by decide +kernel⟩
theorem h_m__law_picked (D : DefAt K mg "_law_picked" (topS 30)) (T : Blt mg) : Has P w K mg base g "_law_picked" 1 ["_law_x", "_law_n"] m__law_picked := by
  obtain ⟨f, fd, hm, F⟩ := D
  refine ⟨f, fd, fn_m F sc__law_picked (fun cdv A outer s H E hr => ?_), F.kp, F.binds (fun _ _ _ _ _ _ us hl => bnd2 hl fun _ _ => rfl), hm, look_of F⟩
  exact (@ss_cons _ _ _ _ _ _ _ (s_un2 (i := 2) (j := 3) rfl sc__law_picked.nd rfl rfl (@se_tup _ _ _ _ _ _ _ (@sa_cons _ _ _ _ _ _ _ se_int (@sa_cons _ _ _ _ _ _ _ se_int sa_nil rfl) rfl)))
      (@ss_cons _ _ _ _ _ _ _ (s_for PassesOwn.never rfl (si_rng1 rfl T.range (@sa_cons _ _ _ _ _ _ _ (se_var 1) sa_nil rfl)) (pg_name (i := 4) sc__law_picked.nd rfl (by first | exact Or.inl rfl | exact Or.inr rfl)) ig_name (@ss_one _ _ _ _ _ (s_parA (i := 2) (j := 3) rfl sc__law_picked.nd rfl rfl (by decide) (@sa_cons _ _ _ _ _ _ _ (@se_bin _ _ _ _ _ _ _ _ _ _ _ or_mul im_mul (se_var 2) (se_callB (call_max2 rfl) im_max2 rfl T.max PyProof.Rows.boot_max (@sa_cons _ _ _ _ _ _ _ se_int (@sa_cons _ _ _ _ _ _ _ (@se_bin _ _ _ _ _ _ _ _ _ _ _ op_sub im_sub (se_var 0) (se_var 4)) sa_nil rfl) rfl))) (@sa_cons _ _ _ _ _ _ _ (@se_bin _ _ _ _ _ _ _ _ _ _ _ or_mul im_mul (se_var 3) (@se_bin _ _ _ _ _ _ _ _ _ _ _ or_add im_add (se_var 4) se_int)) sa_nil rfl) rfl))))
      (@ss_one _ _ _ _ _ (@s_ret _ _ _ _ _ _ (@se_bin _ _ _ _ _ _ _ _ _ _ _ op_fdivS im_div (se_var 2) (se_var 3))))))
theorem sc__law_below : FnScope ["_law_n", "_law_m", "_law_bound", "_law_total", "_law_j", "_law_rest"] ["_law_n", "_law_m", "_law_bound"] (defScope (topS 31)) := ⟨rfl, rfl, rfl, by decide +kernel, rfl, by decide +kernel, by decide +kernel⟩
theorem h_m__law_below (D : DefAt K mg "_law_below" (topS 31)) (T : Blt mg) (H_m__law_picked : Has P w K mg base g "_law_picked" 1 ["_law_x", "_law_n"] m__law_picked) : Has P w K mg base g "_law_below" 2 ["_law_n", "_law_m", "_law_bound"] m__law_below := by
  obtain ⟨f, fd, hm, F⟩ := D
  obtain ⟨f_m__law_picked, fd_m__law_picked, G_m__law_picked, K_m__law_picked, B_m__law_picked, M_m__law_picked, _⟩ := H_m__law_picked
  refine ⟨f, fd, fn_m F sc__law_below (fun cdv A outer s H E hr => ?_), F.kp, F.binds (fun _ _ _ _ _ _ us hl => bnd3 hl fun _ _ _ => rfl), hm, look_of F⟩
  exact (@ss_cons _ _ _ _ _ _ _ (@s_set _ _ _ _ _ _ 3 _ _ sc__law_below.nd rfl (by first | exact Or.inl rfl | exact Or.inr rfl) se_int rfl (by first | exact Or.inl rfl | exact Or.inr rfl | assumption))
      (@ss_cons _ _ _ _ _ _ _ (s_for PassesOwn.never rfl (si_rng1 rfl T.range (@sa_cons _ _ _ _ _ _ _ (@se_bin _ _ _ _ _ _ _ _ _ _ _ or_add im_add (se_var 0) se_int) sa_nil rfl)) (pg_name (i := 4) sc__law_below.nd rfl (by first | exact Or.inl rfl | exact Or.inr rfl)) ig_name (@ss_cons _ _ _ _ _ _ _ (@s_set _ _ _ _ _ _ 5 _ _ sc__law_below.nd rfl (by first | exact Or.inl rfl | exact Or.inr rfl) (se_call (G_m__law_picked.mono (by decide)) hr rfl M_m__law_picked K_m__law_picked B_m__law_picked (@sa_cons _ _ _ _ _ _ _ (@se_bin _ _ _ _ _ _ _ _ _ _ _ op_sub im_sub (@se_bin _ _ _ _ _ _ _ _ _ _ _ or_add im_add (@se_bin _ _ _ _ _ _ _ _ _ _ _ op_sub im_sub (se_var 2) (@se_bin _ _ _ _ _ _ _ _ _ _ _ or_mul im_mul (se_var 4) (se_var 1))) (se_var 0)) se_int) (@sa_cons _ _ _ _ _ _ _ (se_var 0) sa_nil rfl) rfl) (len_cons (len_cons len_nil))) rfl (by first | exact Or.inl rfl | exact Or.inr rfl | assumption))
      (@ss_one _ _ _ _ _ (@s_set _ _ _ _ _ _ 3 _ _ sc__law_below.nd rfl (by first | exact Or.inl rfl | exact Or.inr rfl) (@se_bin _ _ _ _ _ _ _ _ _ _ _ or_add im_add (se_var 3) (@se_bin _ _ _ _ _ _ _ _ _ _ _ or_mul im_mul (@se_bin _ _ _ _ _ _ _ _ _ _ _ or_mul im_mul (@se_bin _ _ _ _ _ _ _ _ _ _ _ op_sub im_sub se_int (@se_bin _ _ _ _ _ _ _ _ _ _ _ or_mul im_mul se_int (@se_bin _ _ _ _ _ _ _ _ _ _ _ op_mod im_mod (se_var 4) se_int))) (se_call (G_m__law_picked.mono (by decide)) hr rfl M_m__law_picked K_m__law_picked B_m__law_picked (@sa_cons _ _ _ _ _ _ _ (se_var 0) (@sa_cons _ _ _ _ _ _ _ (se_var 4) sa_nil rfl) rfl) (len_cons (len_cons len_nil)))) (se_var 5))) rfl (by first | exact Or.inl rfl | exact Or.inr rfl | assumption)))))
      (@ss_one _ _ _ _ _ (@s_ret _ _ _ _ _ _ (se_var 3)))))
theorem sc__law_many : FnScope ["_law_n", "_law_m", "_law_k"] ["_law_n", "_law_m", "_law_k"] (defScope (topS 32)) := ⟨rfl, rfl, rfl, by decide +kernel, rfl, by decide +kernel, by decide +kernel⟩
theorem h_m__law_many (D : DefAt K mg "_law_many" (topS 32)) (T : Blt mg) (H_m__law_below : Has P w K mg base g "_law_below" 2 ["_law_n", "_law_m", "_law_bound"] m__law_below) : Has P w K mg base g "_law_many" 3 ["_law_n", "_law_m", "_law_k"] m__law_many := by
  obtain ⟨f, fd, hm, F⟩ := D
  obtain ⟨f_m__law_below, fd_m__law_below, G_m__law_below, K_m__law_below, B_m__law_below, M_m__law_below, _⟩ := H_m__law_below
  refine ⟨f, fd, fn_m F sc__law_many (fun cdv A outer s H E hr => ?_), F.kp, F.binds (fun _ _ _ _ _ _ us hl => bnd3 hl fun _ _ _ => rfl), hm, look_of F⟩
  exact (@ss_one _ _ _ _ _ (@s_ret _ _ _ _ _ _ (@se_bin _ _ _ _ _ _ _ _ _ _ _ op_sub im_sub (se_call (G_m__law_below.mono (by decide)) hr rfl M_m__law_below K_m__law_below B_m__law_below (@sa_cons _ _ _ _ _ _ _ (se_var 0) (@sa_cons _ _ _ _ _ _ _ (se_var 1) (@sa_cons _ _ _ _ _ _ _ (@se_bin _ _ _ _ _ _ _ _ _ _ _ or_add im_add (@se_bin _ _ _ _ _ _ _ _ _ _ _ or_mul im_mul (se_var 2) (se_var 1)) (se_var 1)) sa_nil rfl) rfl) rfl) (len_cons (len_cons (len_cons len_nil)))) (se_call (G_m__law_below.mono (by decide)) hr rfl M_m__law_below K_m__law_below B_m__law_below (@sa_cons _ _ _ _ _ _ _ (se_var 0) (@sa_cons _ _ _ _ _ _ _ (se_var 1) (@sa_cons _ _ _ _ _ _ _ (@se_bin _ _ _ _ _ _ _ _ _ _ _ or_mul im_mul (se_var 2) (se_var 1)) sa_nil rfl) rfl) rfl) (len_cons (len_cons (len_cons len_nil)))))))
theorem sc__law_kind_of : FnScope ["_law_e", "_law_marks"] ["_law_e"] (defScope (topS 28)) := ⟨rfl, rfl, rfl, by decide +kernel, rfl, by decide +kernel, by decide +kernel⟩
theorem h_H__law_kind_of (D : DefAt K mg "_law_kind_of" (topS 28)) (T : Blt mg) (hgo : g = gOf mg) (CL : Clss K mg) : HasH P w K mg base g "_law_kind_of" 1 ["_law_e"] m__law_kind_of := by
  obtain ⟨f, fd, hm, F⟩ := D
  refine ⟨f, fd, fn_mH F sc__law_kind_of (fun cdv A outer s H E hr => ?_), F.kp, F.binds (fun _ _ _ _ _ _ us hl => bnd1 hl fun _ => rfl), hm⟩
  exact (@ss_cons _ _ _ _ _ _ _ (@s_set _ _ _ _ _ _ 1 _ _ sc__law_kind_of.nd rfl (by first | exact Or.inl rfl | exact Or.inr rfl) (@se_lst _ _ _ _ _ _ _ _ (@sa_cons _ _ _ _ _ _ _ (se_isC CL hgo (se_var 0) rfl T.isinstance rfl (by decide)) (@sa_cons _ _ _ _ _ _ _ (se_isC CL hgo (se_var 0) rfl T.isinstance rfl (by decide)) (@sa_cons _ _ _ _ _ _ _ (se_isC CL hgo (se_var 0) rfl T.isinstance rfl (by decide)) (@sa_cons _ _ _ _ _ _ _ (se_isC CL hgo (se_var 0) rfl T.isinstance rfl (by decide)) sa_nil rfl) rfl) rfl) rfl)) rfl (by first | exact Or.inl rfl | exact Or.inr rfl | assumption))
      (@ss_cons _ _ _ _ _ _ _ (@s_set _ _ _ _ _ _ 1 _ _ sc__law_kind_of.nd rfl (by first | exact Or.inl rfl | exact Or.inr rfl) (@se_bin _ _ _ _ _ _ _ _ _ _ _ or_add im_add (se_var 1) (@se_lst _ _ _ _ _ _ _ _ (@sa_cons _ _ _ _ _ _ _ (se_isC CL hgo (se_var 0) rfl T.isinstance rfl (by decide)) (@sa_cons _ _ _ _ _ _ _ (se_isC CL hgo (se_var 0) rfl T.isinstance rfl (by decide)) (@sa_cons _ _ _ _ _ _ _ (se_isC CL hgo (se_var 0) rfl T.isinstance rfl (by decide)) sa_nil rfl) rfl) rfl))) rfl (by first | exact Or.inl rfl | exact Or.inr rfl | assumption))
      (@ss_cons _ _ _ _ _ _ _ (@s_if _ _ _ _ _ _ _ _ _ _ (PW.pt (@sw_or _ _ _ _ _ _ _ _ _ (@st_not _ _ _ _ _ _ (@st_truth _ _ _ _ _ _ im_tru (se_isV CL hgo (se_var 0) rfl T.isinstance rfl T.ValueError) (fun _ => rfl))) (@sw_or1 _ _ _ _ _ _ (@st_cmp _ _ _ _ _ _ _ _ _ _ _ (op_neG hr.units) im_ne (se_bmL PySem.F.slot_list_count PySem.F.type_list_count mt_countB im_countB (se_var 1) (@sa_cons _ _ _ _ _ _ _ se_bl sa_nil rfl)) se_int (nomark _))))) (@ss_one _ _ _ _ _ (@s_ret _ _ _ _ _ _ se_str)) ss_skip)
      (@ss_one _ _ _ _ _ (@s_ret _ _ _ _ _ _ (@se_ix _ _ _ _ _ _ _ _ _ _ ix_seq im_ix (@se_lst _ _ _ _ _ _ _ _ (@sa_cons _ _ _ _ _ _ _ se_str (@sa_cons _ _ _ _ _ _ _ se_str (@sa_cons _ _ _ _ _ _ _ se_str (@sa_cons _ _ _ _ _ _ _ se_str (@sa_cons _ _ _ _ _ _ _ se_str (@sa_cons _ _ _ _ _ _ _ se_str (@sa_cons _ _ _ _ _ _ _ se_str sa_nil rfl) rfl) rfl) rfl) rfl) rfl) rfl)) (se_bmL PySem.F.slot_list_index PySem.F.type_list_index mt_indexB im_indexB (se_var 1) (@sa_cons _ _ _ _ _ _ _ se_bl sa_nil rfl)) (fun _ _ => rfl)))))))
theorem sc__law_refused : FnScope ["_law_e", "_law_kind"] ["_law_e"] (defScope (topS 29)) := ⟨rfl, rfl, rfl, by decide +kernel, rfl, by decide +kernel, by decide +kernel⟩
theorem h_H__law_refused (D : DefAt K mg "_law_refused" (topS 29)) (T : Blt mg) (hgo : g = gOf mg) (CI_NoText : CIm K mg "NoText" (topS 7) ["row"]) (CI_TooGreat : CIm K mg "TooGreat" (topS 8) ["many", "most"]) (H_H__law_kind_of : HasH P w K mg base g "_law_kind_of" 1 ["_law_e"] m__law_kind_of) : HasH P w K mg base g "_law_refused" 2 ["_law_e"] m__law_refused := by
  obtain ⟨f, fd, hm, F⟩ := D
  obtain ⟨f_H__law_kind_of, fd_H__law_kind_of, G_H__law_kind_of, K_H__law_kind_of, B_H__law_kind_of, M_H__law_kind_of⟩ := H_H__law_kind_of
  refine ⟨f, fd, fn_mH F sc__law_refused (fun cdv A outer s H E hr => ?_), F.kp, F.binds (fun _ _ _ _ _ _ us hl => bnd1 hl fun _ => rfl), hm⟩
  exact (@ss_cons _ _ _ _ _ _ _ (@s_set _ _ _ _ _ _ 1 _ _ sc__law_refused.nd rfl (by first | exact Or.inl rfl | exact Or.inr rfl) (se_callH (G_H__law_kind_of.mono (by decide)) hr rfl M_H__law_kind_of K_H__law_kind_of B_H__law_kind_of (@sa_cons _ _ _ _ _ _ _ (se_var 0) sa_nil rfl) (len_cons len_nil)) rfl (by first | exact Or.inl rfl | exact Or.inr rfl | assumption))
      (@ss_cons _ _ _ _ _ _ _ (@s_if _ _ _ _ _ _ _ _ _ _ (@st_cmp _ _ _ _ _ _ _ _ _ _ _ (op_eqG hr.units) im_eq (se_var 1) se_str (nomark _)) (@ss_one _ _ _ _ _ (@s_ret _ _ _ _ _ _ (@se_tup _ _ _ _ _ _ _ (@sa_cons _ _ _ _ _ _ _ (se_var 1) (@sa_cons _ _ _ _ _ _ _ (se_fldM (se_var 0) CI_NoText hgo (by decide)) sa_nil rfl) rfl)))) ss_skip)
      (@ss_one _ _ _ _ _ (@s_ret _ _ _ _ _ _ (@se_ifExp _ _ _ _ _ _ _ _ _ _ (@st_cmp _ _ _ _ _ _ _ _ _ _ _ (op_eqG hr.units) im_eq (se_var 1) se_str (nomark _)) (@se_tup _ _ _ _ _ _ _ (@sa_cons _ _ _ _ _ _ _ (se_var 1) (@sa_cons _ _ _ _ _ _ _ (se_fldM (se_var 0) CI_TooGreat hgo (by decide)) (@sa_cons _ _ _ _ _ _ _ (se_fldM (se_var 0) CI_TooGreat hgo (by decide)) sa_nil rfl) rfl) rfl)) (@se_tup _ _ _ _ _ _ _ (@sa_cons _ _ _ _ _ _ _ (se_var 1) sa_nil rfl)))))))
theorem h_e_number_needed (D : DefAt K mg "number_needed" (topS 12)) (T : Blt mg) (hgo : g = gOf mg) (CL : Clss K mg) (H_m_is_within : Has P w K mg base g "is_within" 2 ["thing", "least", "most"] m_is_within) : HasE P w K mg base g "number_needed" 3 ["thing", "least", "most"] e_number_needed := by
  obtain ⟨f, fd, hm, F⟩ := D
  obtain ⟨f_m_is_within, fd_m_is_within, G_m_is_within, K_m_is_within, B_m_is_within, M_m_is_within, _⟩ := H_m_is_within
  obtain ⟨A_NoNumber, C_NoNumber⟩ := CL.at_ "NoNumber" (by decide)
  refine ⟨f, fd, fn_mE F sc_number_needed (fun cdv A outer s H E hr fl pl po => ?_), F.kp, F.binds (fun _ _ _ _ _ _ us hl => bnd3 hl fun _ _ _ => rfl), hm⟩
  exact (@ss_one _ _ _ _ _ (@s_if _ _ _ _ _ _ _ _ _ _ (@st_up _ _ _ _ _ (@st_not _ _ _ _ _ _ (@st_truth _ _ _ _ _ _ im_tru (se_call (G_m_is_within.mono (by decide)) hr rfl M_m_is_within K_m_is_within B_m_is_within (@sa_cons _ _ _ _ _ _ _ (se_var 0) (@sa_cons _ _ _ _ _ _ _ (se_var 1) (@sa_cons _ _ _ _ _ _ _ (se_var 2) sa_nil rfl) rfl) rfl) (len_cons (len_cons (len_cons len_nil)))) (fun _ => rfl)))) (@ss_one _ _ _ _ _ (s_raise fl pl rfl rfl C_NoNumber (gof_of hgo C_NoNumber) ((CL.one _ (by decide) _ C_NoNumber).2.2 rfl))) ss_skip))
theorem h_e_slab_needed (D : DefAt K mg "slab_needed" (topS 21)) (T : Blt mg) {t_MOST_LONG : Tok} (c_MOST_LONG : mg "MOST_LONG" = some (.int 8 t_MOST_LONG)) {t_MOST_WIDE : Tok} (c_MOST_WIDE : mg "MOST_WIDE" = some (.int 20 t_MOST_WIDE)) (H_e_number_needed : HasE P w K mg base g "number_needed" 3 ["thing", "least", "most"] e_number_needed) : HasE P w K mg base g "slab_needed" 4 ["n", "m", "k"] e_slab_needed := by
  obtain ⟨f, fd, hm, F⟩ := D
  obtain ⟨f_e_number_needed, fd_e_number_needed, G_e_number_needed, K_e_number_needed, B_e_number_needed, M_e_number_needed⟩ := H_e_number_needed
  refine ⟨f, fd, fn_mE F sc_slab_needed (fun cdv A outer s H E hr fl pl po => ?_), F.kp, F.binds (fun _ _ _ _ _ _ us hl => bnd3 hl fun _ _ _ => rfl), hm⟩
  exact (@ss_cons _ _ _ _ _ _ _ (s_expr (se_callE fl pl (G_e_number_needed.mono (by decide)) hr rfl M_e_number_needed K_e_number_needed B_e_number_needed (@sa_cons _ _ _ _ _ _ _ (@se_up _ _ _ _ _ (se_var 0)) (@sa_cons _ _ _ _ _ _ _ (@se_up _ _ _ _ _ se_int) (@sa_cons _ _ _ _ _ _ _ (@se_up _ _ _ _ _ (se_globI rfl c_MOST_LONG)) sa_nil rfl) rfl) rfl) (len_cons (len_cons (len_cons len_nil)))))
      (@ss_cons _ _ _ _ _ _ _ (s_expr (se_callE fl pl (G_e_number_needed.mono (by decide)) hr rfl M_e_number_needed K_e_number_needed B_e_number_needed (@sa_cons _ _ _ _ _ _ _ (@se_up _ _ _ _ _ (se_var 1)) (@sa_cons _ _ _ _ _ _ _ (@se_up _ _ _ _ _ se_int) (@sa_cons _ _ _ _ _ _ _ (@se_up _ _ _ _ _ (se_globI rfl c_MOST_WIDE)) sa_nil rfl) rfl) rfl) (len_cons (len_cons (len_cons len_nil)))))
      (@ss_one _ _ _ _ _ (s_expr (se_callE fl pl (G_e_number_needed.mono (by decide)) hr rfl M_e_number_needed K_e_number_needed B_e_number_needed (@sa_cons _ _ _ _ _ _ _ (@se_up _ _ _ _ _ (se_var 2)) (@sa_cons _ _ _ _ _ _ _ (@se_up _ _ _ _ _ se_int) (@sa_cons _ _ _ _ _ _ _ (@se_up _ _ _ _ _ (se_globI rfl c_MOST_LONG)) sa_nil rfl) rfl) rfl) (len_cons (len_cons (len_cons len_nil))))))))
theorem sc_told_needed : FnScope ["many"] ["many"] (defScope (topS 15)) := ⟨rfl, rfl, rfl, by decide +kernel, rfl, by decide +kernel, by decide +kernel⟩
theorem h_e_told_needed (D : DefAt K mg "told_needed" (topS 15)) (T : Blt mg) (hgo : g = gOf mg) (CI_TooGreat : CIm K mg "TooGreat" (topS 8) ["many", "most"]) {t_MOST_TOLD : Tok} (c_MOST_TOLD : mg "MOST_TOLD" = some (.int 300 t_MOST_TOLD)) : HasE P w K mg base g "told_needed" 3 ["many"] e_told_needed := by
  obtain ⟨f, fd, hm, F⟩ := D
  refine ⟨f, fd, fn_mE F sc_told_needed (fun cdv A outer s H E hr fl pl po => ?_), F.kp, F.binds (fun _ _ _ _ _ _ us hl => bnd1 hl fun _ => rfl), hm⟩
  exact (@ss_one _ _ _ _ _ (@s_if _ _ _ _ _ _ _ _ _ _ (@st_up _ _ _ _ _ (@st_cmp _ _ _ _ _ _ _ _ _ _ _ op_gt im_gt (se_var 0) (se_globI rfl c_MOST_TOLD) (nomark _))) (@ss_one _ _ _ _ _ (s_raiseM (k := 0) fl pl rfl rfl CI_TooGreat hgo (hr.mono (by decide)) (by decide) (@sa_cons _ _ _ _ _ _ _ (@se_up _ _ _ _ _ (se_var 0)) (@sa_cons _ _ _ _ _ _ _ (@se_up _ _ _ _ _ (se_globI rfl c_MOST_TOLD)) sa_nil rfl) rfl))) ss_skip))
theorem sc_slab_all : FnScope ["n", "m", "k", "cells", "left", "least", "most", "longer"] ["n", "m", "k"] (defScope (topS 20)) := ⟨rfl, rfl, rfl, by decide +kernel, rfl, by decide +kernel, by decide +kernel⟩
theorem h_e_slab_all (D : DefAt K mg "slab_all" (topS 20)) (T : Blt mg) (H_e_slab_needed : HasE P w K mg base g "slab_needed" 4 ["n", "m", "k"] e_slab_needed) (H_e_told_needed : HasE P w K mg base g "told_needed" 3 ["many"] e_told_needed) (H_m_slab_count : Has P w K mg base g "slab_count" 1 ["n", "m", "k"] m_slab_count) : HasE P w K mg base g "slab_all" 5 ["n", "m", "k"] e_slab_all := by
  obtain ⟨f, fd, hm, F⟩ := D
  obtain ⟨f_e_slab_needed, fd_e_slab_needed, G_e_slab_needed, K_e_slab_needed, B_e_slab_needed, M_e_slab_needed⟩ := H_e_slab_needed
  obtain ⟨f_e_told_needed, fd_e_told_needed, G_e_told_needed, K_e_told_needed, B_e_told_needed, M_e_told_needed⟩ := H_e_told_needed
  obtain ⟨f_m_slab_count, fd_m_slab_count, G_m_slab_count, K_m_slab_count, B_m_slab_count, M_m_slab_count, _⟩ := H_m_slab_count
  refine ⟨f, fd, fn_exit (fn_mE F sc_slab_all (fun cdv A outer s H E hr fl pl po => ?_)), F.kp, F.binds (fun _ _ _ _ _ _ us hl => bnd3 hl fun _ _ _ => rfl), hm⟩
  exact (@ss_cons _ _ _ _ _ _ _ (s_expr (se_callE fl pl (G_e_slab_needed.mono (by decide)) hr rfl M_e_slab_needed K_e_slab_needed B_e_slab_needed (@sa_cons _ _ _ _ _ _ _ (@se_up _ _ _ _ _ (se_var 0)) (@sa_cons _ _ _ _ _ _ _ (@se_up _ _ _ _ _ (se_var 1)) (@sa_cons _ _ _ _ _ _ _ (@se_up _ _ _ _ _ (se_var 2)) sa_nil rfl) rfl) rfl) (len_cons (len_cons (len_cons len_nil)))))
      (@ss_cons _ _ _ _ _ _ _ (s_expr (se_callE fl pl (G_e_told_needed.mono (by decide)) hr rfl M_e_told_needed K_e_told_needed B_e_told_needed (@sa_cons _ _ _ _ _ _ _ (@se_up _ _ _ _ _ (se_call (G_m_slab_count.mono (by decide)) hr rfl M_m_slab_count K_m_slab_count B_m_slab_count (@sa_cons _ _ _ _ _ _ _ (se_var 0) (@sa_cons _ _ _ _ _ _ _ (se_var 1) (@sa_cons _ _ _ _ _ _ _ (se_var 2) sa_nil rfl) rfl) rfl) (len_cons (len_cons (len_cons len_nil))))) sa_nil rfl) (len_cons len_nil)))
      (@ss_cons _ _ _ _ _ _ _ (@s_up _ _ _ _ _ (@s_set _ _ _ _ _ _ 3 _ _ sc_slab_all.nd rfl (by first | exact Or.inl rfl | exact Or.inr rfl) (@se_lst _ _ _ _ _ _ _ _ (@sa_cons _ _ _ _ _ _ _ (@se_tup _ _ _ _ _ _ _ sa_nil) sa_nil rfl)) rfl (by first | exact Or.inl rfl | exact Or.inr rfl | assumption)))
      (@ss_cons _ _ _ _ _ _ _ (@s_up _ _ _ _ _ (s_for PassesOwn.never rfl (si_rng3 rfl T.range (@sa_cons _ _ _ _ _ _ _ (@se_bin _ _ _ _ _ _ _ _ _ _ _ op_sub im_sub (se_var 0) se_int) (@sa_cons _ _ _ _ _ _ _ (@se_un _ _ _ _ _ _ _ _ _ un_neg im_neg se_int) (@sa_cons _ _ _ _ _ _ _ (@se_un _ _ _ _ _ _ _ _ _ un_neg im_neg se_int) sa_nil rfl) rfl) rfl)) (pg_name (i := 4) sc_slab_all.nd rfl (by first | exact Or.inl rfl | exact Or.inr rfl)) ig_name (@ss_cons _ _ _ _ _ _ _ (@s_set _ _ _ _ _ _ 5 _ _ sc_slab_all.nd rfl (by first | exact Or.inl rfl | exact Or.inr rfl) (@se_bin _ _ _ _ _ _ _ _ _ _ _ op_sub im_sub (@se_bin _ _ _ _ _ _ _ _ _ _ _ or_mul im_mul (se_var 2) (se_var 1)) (@se_bin _ _ _ _ _ _ _ _ _ _ _ or_mul im_mul (se_var 4) (@se_bin _ _ _ _ _ _ _ _ _ _ _ op_sub im_sub (se_var 1) se_int))) rfl (by first | exact Or.inl rfl | exact Or.inr rfl | assumption))
      (@ss_cons _ _ _ _ _ _ _ (@s_set _ _ _ _ _ _ 6 _ _ sc_slab_all.nd rfl (by first | exact Or.inl rfl | exact Or.inr rfl) (@se_bin _ _ _ _ _ _ _ _ _ _ _ op_sub im_sub (@se_bin _ _ _ _ _ _ _ _ _ _ _ or_add im_add (@se_bin _ _ _ _ _ _ _ _ _ _ _ or_mul im_mul (se_var 2) (se_var 1)) (se_var 1)) se_int) rfl (by first | exact Or.inl rfl | exact Or.inr rfl | assumption))
      (@ss_cons _ _ _ _ _ _ _ (s_comp2Set (osc := defScope (topS 20)) [1] ["cell", "number", "m"] rfl rfl rfl rfl (by decide +kernel) ⟨by decide +kernel, by decide +kernel, rfl, by decide +kernel, by decide +kernel⟩ (@si_seq _ _ _ _ _ _ (se_var 3)) (fun cl C s₀ H₀ fp => ⟨Or.inl rfl, rfl⟩) (fun cl C s₀ H₀ fp => ⟨Or.inl rfl, rfl⟩)
        (fun cl C s₀ H₀ fp => (si_rng1 rfl T.range (@sa_cons _ _ _ _ _ _ _ (se_var 2) sa_nil rfl))) (fun cl C s₀ H₀ fp => (@se_bin _ _ _ _ _ _ _ _ _ _ _ or_add im_add (se_var 0) (@se_tup _ _ _ _ _ _ _ (@sa_cons _ _ _ _ _ _ _ (se_var 1) sa_nil rfl)))) (i := 7) sc_slab_all.nd rfl)
      (@ss_one _ _ _ _ _ (s_compSet (osc := defScope (topS 20)) [5, 6] ["cell", "least", "most"] rfl rfl rfl rfl (by decide +kernel) ⟨by decide +kernel, by decide +kernel, rfl, by decide +kernel, rfl, by decide +kernel⟩ (@si_seq _ _ _ _ _ _ (se_var 7))
        (fun cl C s₀ H₀ fp => (ts_one (st_chain op_le op_le im_le im_le (se_var 1) (se_callB (call_sumL rfl) im_sum rfl T.sum PyProof.Rows.boot_sum (@sa_cons _ _ _ _ _ _ _ (se_var 0) sa_nil rfl)) (se_var 2)))) (fun cl C s₀ H₀ fp => (se_var 0)) (i := 3) sc_slab_all.nd rfl)))))))
      (@ss_one _ _ _ _ _ (@s_up _ _ _ _ _ (@s_ret _ _ _ _ _ _ (se_var 3))))))))
theorem sc__law_told : FnScope ["_law_n", "_law_m", "_law_k", "_law_e"] ["_law_n", "_law_m", "_law_k"] (defScope (topS 34)) := ⟨rfl, rfl, rfl, by decide +kernel, rfl, by decide +kernel, by decide +kernel⟩
theorem h_m__law_told (D : DefAt K mg "_law_told" (topS 34)) (T : Blt mg) (hgo : g = gOf mg) (CL : Clss K mg) (H_H__law_refused : HasH P w K mg base g "_law_refused" 2 ["_law_e"] m__law_refused) (H_e_slab_all : HasE P w K mg base g "slab_all" 5 ["n", "m", "k"] e_slab_all) : Has P w K mg base g "_law_told" 6 ["_law_n", "_law_m", "_law_k"] m__law_told := by
  obtain ⟨f, fd, hm, F⟩ := D
  obtain ⟨f_H__law_refused, fd_H__law_refused, G_H__law_refused, K_H__law_refused, B_H__law_refused, M_H__law_refused⟩ := H_H__law_refused
  obtain ⟨f_e_slab_all, fd_e_slab_all, G_e_slab_all, K_e_slab_all, B_e_slab_all, M_e_slab_all⟩ := H_e_slab_all
  refine ⟨f, fd, fn_m F sc__law_told (fun cdv A outer s H E hr => ?_), F.kp, F.binds (fun _ _ _ _ _ _ us hl => bnd3 hl fun _ _ _ => rfl), hm, look_of F⟩
  exact (@ss_one _ _ _ _ _ (s_try (i := 3) CL hgo ⟨rfl, rfl, rfl⟩ sc__law_told.nd rfl rfl rfl rfl (G_H__law_refused.mono (by decide)) (room_unm hr) M_H__law_refused K_H__law_refused B_H__law_refused (fun pn xe E fl pl po => (@ss_one _ _ _ _ _ (@s_ret _ _ _ _ _ _ (se_callE fl pl (G_e_slab_all.mono (by decide)) hr rfl M_e_slab_all K_e_slab_all B_e_slab_all (@sa_cons _ _ _ _ _ _ _ (@se_up _ _ _ _ _ (se_var 0)) (@sa_cons _ _ _ _ _ _ _ (@se_up _ _ _ _ _ (se_var 1)) (@sa_cons _ _ _ _ _ _ _ (@se_up _ _ _ _ _ (se_var 2)) sa_nil rfl) rfl) rfl) (len_cons (len_cons (len_cons len_nil)))))))))
theorem sc__law_cells : FnScope ["_law_n", "_law_m", "_law_found", "_law_turn", "_law_longer", "_law_box"] ["_law_n", "_law_m"] (defScope (topS 33)) := ⟨rfl, rfl, rfl, by decide +kernel, rfl, by decide +kernel, by decide +kernel⟩
theorem h_m__law_cells (D : DefAt K mg "_law_cells" (topS 33)) (T : Blt mg) : Has P w K mg base g "_law_cells" 1 ["_law_n", "_law_m"] m__law_cells := by
  obtain ⟨f, fd, hm, F⟩ := D
  refine ⟨f, fd, fn_loc (fn_exit (fn_m F sc__law_cells (fun cdv A outer s H E hr => ?_))), F.kp, F.binds (fun _ _ _ _ _ _ us hl => bnd2 hl fun _ _ => rfl), hm, look_of F⟩
  exact (@ss_cons _ _ _ _ _ _ _ (@s_set _ _ _ _ _ _ 2 _ _ sc__law_cells.nd rfl (by first | exact Or.inl rfl | exact Or.inr rfl) (@se_lst _ _ _ _ _ _ _ _ (@sa_cons _ _ _ _ _ _ _ (@se_tup _ _ _ _ _ _ _ sa_nil) sa_nil rfl)) rfl (by first | exact Or.inl rfl | exact Or.inr rfl | assumption))
      (@ss_cons _ _ _ _ _ _ _ (s_for PassesOwn.never rfl (si_rng1 rfl T.range (@sa_cons _ _ _ _ _ _ _ (se_var 0) sa_nil rfl)) (pg_name (i := 3) sc__law_cells.nd rfl (by first | exact Or.inl rfl | exact Or.inr rfl)) ig_name (@ss_cons _ _ _ _ _ _ _ (@s_set _ _ _ _ _ _ 4 _ _ sc__law_cells.nd rfl (by first | exact Or.inl rfl | exact Or.inr rfl) (@se_lst _ _ _ _ _ _ _ _ sa_nil) rfl (by first | exact Or.inl rfl | exact Or.inr rfl | assumption))
      (@ss_cons _ _ _ _ _ _ _ (s_for PassesOwn.never rfl (@si_seq _ _ _ _ _ _ (se_var 2)) (pg_name (i := 5) sc__law_cells.nd rfl (by first | exact Or.inl rfl | exact Or.inr rfl)) ig_name (@ss_one _ _ _ _ _ (s_expr (se_bmL PySem.F.slot_list_extend PySem.F.type_list_extend mt_extendR im_extend (se_var 4) (@sa_cons _ _ _ _ _ _ _ (se_comp (osc := defScope (topS 33)) [5] ["_law_one", "_law_box"] rfl rfl rfl rfl (by decide +kernel) ⟨by decide +kernel, by decide +kernel, rfl, by decide +kernel, rfl, by decide +kernel⟩ (si_rng1 rfl T.range (@sa_cons _ _ _ _ _ _ _ (se_var 1) sa_nil rfl))
        (fun cl C s₀ H₀ fp => ts_nil) (fun cl C s₀ H₀ fp => (@se_bin _ _ _ _ _ _ _ _ _ _ _ or_add im_add (se_var 1) (@se_tup _ _ _ _ _ _ _ (@sa_cons _ _ _ _ _ _ _ (se_var 0) sa_nil rfl))))) sa_nil rfl)))))
      (@ss_one _ _ _ _ _ (@s_set _ _ _ _ _ _ 2 _ _ sc__law_cells.nd rfl (by first | exact Or.inl rfl | exact Or.inr rfl) (se_var 4) rfl (by first | exact Or.inl rfl | exact Or.inr rfl | assumption))))))
      (@ss_one _ _ _ _ _ (@s_ret _ _ _ _ _ _ (se_var 2)))))
theorem h_er_slab_all (D : DefAt K mg "slab_all" (topS 20)) (T : Blt mg) (H_e_slab_needed : HasE P w K mg base g "slab_needed" 4 ["n", "m", "k"] e_slab_needed) (H_e_told_needed : HasE P w K mg base g "told_needed" 3 ["many"] e_told_needed) (H_m_slab_count : Has P w K mg base g "slab_count" 1 ["n", "m", "k"] m_slab_count) : HasE P w K mg base g "slab_all" 5 ["n", "m", "k"] er_slab_all := by
  obtain ⟨f, fd, hm, F⟩ := D
  obtain ⟨f_e_slab_needed, fd_e_slab_needed, G_e_slab_needed, K_e_slab_needed, B_e_slab_needed, M_e_slab_needed⟩ := H_e_slab_needed
  obtain ⟨f_e_told_needed, fd_e_told_needed, G_e_told_needed, K_e_told_needed, B_e_told_needed, M_e_told_needed⟩ := H_e_told_needed
  obtain ⟨f_m_slab_count, fd_m_slab_count, G_m_slab_count, K_m_slab_count, B_m_slab_count, M_m_slab_count, _⟩ := H_m_slab_count
  refine ⟨f, fd, fn_exitR (fn_mE F sc_slab_all (fun cdv A outer s H E hr fl pl po => ?_)), F.kp, F.binds (fun _ _ _ _ _ _ us hl => bnd3 hl fun _ _ _ => rfl), hm⟩
  exact (@ss_cons _ _ _ _ _ _ _ (s_expr (se_callE fl pl (G_e_slab_needed.mono (by decide)) hr rfl M_e_slab_needed K_e_slab_needed B_e_slab_needed (@sa_cons _ _ _ _ _ _ _ (@se_up _ _ _ _ _ (se_var 0)) (@sa_cons _ _ _ _ _ _ _ (@se_up _ _ _ _ _ (se_var 1)) (@sa_cons _ _ _ _ _ _ _ (@se_up _ _ _ _ _ (se_var 2)) sa_nil rfl) rfl) rfl) (len_cons (len_cons (len_cons len_nil)))))
      (@ss_cons _ _ _ _ _ _ _ (s_expr (se_callE fl pl (G_e_told_needed.mono (by decide)) hr rfl M_e_told_needed K_e_told_needed B_e_told_needed (@sa_cons _ _ _ _ _ _ _ (@se_up _ _ _ _ _ (se_call (G_m_slab_count.mono (by decide)) hr rfl M_m_slab_count K_m_slab_count B_m_slab_count (@sa_cons _ _ _ _ _ _ _ (se_var 0) (@sa_cons _ _ _ _ _ _ _ (se_var 1) (@sa_cons _ _ _ _ _ _ _ (se_var 2) sa_nil rfl) rfl) rfl) (len_cons (len_cons (len_cons len_nil))))) sa_nil rfl) (len_cons len_nil)))
      (@ss_cons _ _ _ _ _ _ _ (@s_up _ _ _ _ _ (@s_set _ _ _ _ _ _ 3 _ _ sc_slab_all.nd rfl (by first | exact Or.inl rfl | exact Or.inr rfl) (@se_lst _ _ _ _ _ _ _ _ (@sa_cons _ _ _ _ _ _ _ (@se_tup _ _ _ _ _ _ _ sa_nil) sa_nil rfl)) rfl (by first | exact Or.inl rfl | exact Or.inr rfl | assumption)))
      (@ss_cons _ _ _ _ _ _ _ (@s_up _ _ _ _ _ (s_for PassesOwn.never rfl (si_rng3 rfl T.range (@sa_cons _ _ _ _ _ _ _ (@se_bin _ _ _ _ _ _ _ _ _ _ _ op_sub im_sub (se_var 0) se_int) (@sa_cons _ _ _ _ _ _ _ (@se_un _ _ _ _ _ _ _ _ _ un_neg im_neg se_int) (@sa_cons _ _ _ _ _ _ _ (@se_un _ _ _ _ _ _ _ _ _ un_neg im_neg se_int) sa_nil rfl) rfl) rfl)) (pg_name (i := 4) sc_slab_all.nd rfl (by first | exact Or.inl rfl | exact Or.inr rfl)) ig_name (@ss_cons _ _ _ _ _ _ _ (@s_set _ _ _ _ _ _ 5 _ _ sc_slab_all.nd rfl (by first | exact Or.inl rfl | exact Or.inr rfl) (@se_bin _ _ _ _ _ _ _ _ _ _ _ op_sub im_sub (@se_bin _ _ _ _ _ _ _ _ _ _ _ or_mul im_mul (se_var 2) (se_var 1)) (@se_bin _ _ _ _ _ _ _ _ _ _ _ or_mul im_mul (se_var 4) (@se_bin _ _ _ _ _ _ _ _ _ _ _ op_sub im_sub (se_var 1) se_int))) rfl (by first | exact Or.inl rfl | exact Or.inr rfl | assumption))
      (@ss_cons _ _ _ _ _ _ _ (@s_set _ _ _ _ _ _ 6 _ _ sc_slab_all.nd rfl (by first | exact Or.inl rfl | exact Or.inr rfl) (@se_bin _ _ _ _ _ _ _ _ _ _ _ op_sub im_sub (@se_bin _ _ _ _ _ _ _ _ _ _ _ or_add im_add (@se_bin _ _ _ _ _ _ _ _ _ _ _ or_mul im_mul (se_var 2) (se_var 1)) (se_var 1)) se_int) rfl (by first | exact Or.inl rfl | exact Or.inr rfl | assumption))
      (@ss_cons _ _ _ _ _ _ _ (s_comp2Set (osc := defScope (topS 20)) [1] ["cell", "number", "m"] rfl rfl rfl rfl (by decide +kernel) ⟨by decide +kernel, by decide +kernel, rfl, by decide +kernel, by decide +kernel⟩ (@si_seq _ _ _ _ _ _ (se_var 3)) (fun cl C s₀ H₀ fp => ⟨Or.inl rfl, rfl⟩) (fun cl C s₀ H₀ fp => ⟨Or.inl rfl, rfl⟩)
        (fun cl C s₀ H₀ fp => (si_rng1 rfl T.range (@sa_cons _ _ _ _ _ _ _ (se_var 2) sa_nil rfl))) (fun cl C s₀ H₀ fp => (@se_bin _ _ _ _ _ _ _ _ _ _ _ or_add im_add (se_var 0) (@se_tup _ _ _ _ _ _ _ (@sa_cons _ _ _ _ _ _ _ (se_var 1) sa_nil rfl)))) (i := 7) sc_slab_all.nd rfl)
      (@ss_one _ _ _ _ _ (s_compSet (osc := defScope (topS 20)) [5, 6] ["cell", "least", "most"] rfl rfl rfl rfl (by decide +kernel) ⟨by decide +kernel, by decide +kernel, rfl, by decide +kernel, rfl, by decide +kernel⟩ (@si_seq _ _ _ _ _ _ (se_var 7))
        (fun cl C s₀ H₀ fp => (ts_one (st_chain op_le op_le im_le im_le (se_var 1) (se_callB (call_sumL rfl) im_sum rfl T.sum PyProof.Rows.boot_sum (@sa_cons _ _ _ _ _ _ _ (se_var 0) sa_nil rfl)) (se_var 2)))) (fun cl C s₀ H₀ fp => (se_var 0)) (i := 3) sc_slab_all.nd rfl)))))))
      (@ss_one _ _ _ _ _ (@s_up _ _ _ _ _ (@s_ret _ _ _ _ _ _ (se_var 3))))))))
theorem h_r__law_told (D : DefAt K mg "_law_told" (topS 34)) (T : Blt mg) (hgo : g = gOf mg) (CL : Clss K mg) (H_H__law_refused : HasH P w K mg base g "_law_refused" 2 ["_law_e"] m__law_refused) (H_er_slab_all : HasE P w K mg base g "slab_all" 5 ["n", "m", "k"] er_slab_all) : Has P w K mg base g "_law_told" 6 ["_law_n", "_law_m", "_law_k"] r__law_told := by
  obtain ⟨f, fd, hm, F⟩ := D
  obtain ⟨f_H__law_refused, fd_H__law_refused, G_H__law_refused, K_H__law_refused, B_H__law_refused, M_H__law_refused⟩ := H_H__law_refused
  obtain ⟨f_er_slab_all, fd_er_slab_all, G_er_slab_all, K_er_slab_all, B_er_slab_all, M_er_slab_all⟩ := H_er_slab_all
  refine ⟨f, fd, fn_exitQ (fn_m F sc__law_told (fun cdv A outer s H E hr => ?_)), F.kp, F.binds (fun _ _ _ _ _ _ us hl => bnd3 hl fun _ _ _ => rfl), hm, look_of F⟩
  exact (@ss_one _ _ _ _ _ (s_try (i := 3) CL hgo ⟨rfl, rfl, rfl⟩ sc__law_told.nd rfl rfl rfl rfl (G_H__law_refused.mono (by decide)) (room_unm hr) M_H__law_refused K_H__law_refused B_H__law_refused (fun pn xe E fl pl po => (@ss_one _ _ _ _ _ (@s_ret _ _ _ _ _ _ (se_callE fl pl (G_er_slab_all.mono (by decide)) hr rfl M_er_slab_all K_er_slab_all B_er_slab_all (@sa_cons _ _ _ _ _ _ _ (@se_up _ _ _ _ _ (se_var 0)) (@sa_cons _ _ _ _ _ _ _ (@se_up _ _ _ _ _ (se_var 1)) (@sa_cons _ _ _ _ _ _ _ (@se_up _ _ _ _ _ (se_var 2)) sa_nil rfl) rfl) rfl) (len_cons (len_cons (len_cons len_nil)))))))))
theorem sc_law : FnScope ["_law_script", "_law_at", "_law_cell", "_law_pen", "_law_way", "_law_n", "_law_m", "_law_k", "_law_many_here", "_law_due", "_law_turn", "_law_found"] ["_law_script"] (defScope (topS 35)) := ⟨rfl, rfl, rfl, by decide +kernel, rfl, by decide +kernel, by decide +kernel⟩
theorem h_m_law (D : DefAt K mg "law" (topS 35)) (T : Blt mg) (H_m__law_cell_at : Has P w K mg base g "_law_cell_at" 1 ["_law_script", "_law_k"] m__law_cell_at) (H_r__law_pen_of : Has P w K mg base g "_law_pen_of" 1 ["_law_cell"] r__law_pen_of) (H_m__law_draw : Has P w K mg base g "_law_draw" 2 ["_law_pen", "_law_many_here"] m__law_draw) (H_m_slab_many : Has P w K mg base g "slab_many" 5 ["n", "m", "k"] m_slab_many) (H_m__law_many : Has P w K mg base g "_law_many" 3 ["_law_n", "_law_m", "_law_k"] m__law_many) (H_m__law_told : Has P w K mg base g "_law_told" 6 ["_law_n", "_law_m", "_law_k"] m__law_told) (H_m__law_cells : Has P w K mg base g "_law_cells" 1 ["_law_n", "_law_m"] m__law_cells) (H_r__law_told : Has P w K mg base g "_law_told" 6 ["_law_n", "_law_m", "_law_k"] r__law_told) : Has P w K mg base g "law" 7 ["_law_script"] m_law := by
  obtain ⟨f, fd, hm, F⟩ := D
  obtain ⟨f_m__law_cell_at, fd_m__law_cell_at, G_m__law_cell_at, K_m__law_cell_at, B_m__law_cell_at, M_m__law_cell_at, _⟩ := H_m__law_cell_at
  obtain ⟨f_r__law_pen_of, fd_r__law_pen_of, G_r__law_pen_of, K_r__law_pen_of, B_r__law_pen_of, M_r__law_pen_of, _⟩ := H_r__law_pen_of
  obtain ⟨f_m__law_draw, fd_m__law_draw, G_m__law_draw, K_m__law_draw, B_m__law_draw, M_m__law_draw, _⟩ := H_m__law_draw
  obtain ⟨f_m_slab_many, fd_m_slab_many, G_m_slab_many, K_m_slab_many, B_m_slab_many, M_m_slab_many, _⟩ := H_m_slab_many
  obtain ⟨f_m__law_many, fd_m__law_many, G_m__law_many, K_m__law_many, B_m__law_many, M_m__law_many, _⟩ := H_m__law_many
  obtain ⟨f_m__law_told, fd_m__law_told, G_m__law_told, K_m__law_told, B_m__law_told, M_m__law_told, _⟩ := H_m__law_told
  obtain ⟨f_m__law_cells, fd_m__law_cells, G_m__law_cells, K_m__law_cells, B_m__law_cells, M_m__law_cells, _⟩ := H_m__law_cells
  obtain ⟨f_r__law_told, fd_r__law_told, G_r__law_told, K_r__law_told, B_r__law_told, M_r__law_told, _⟩ := H_r__law_told
  refine ⟨f, fd, fn_exit (fn_m F sc_law (fun cdv A outer s H E hr => ?_)), F.kp, F.binds (fun _ _ _ _ _ _ us hl => bnd1 hl fun _ => rfl), hm, look_of F⟩
  exact (@ss_cons _ _ _ _ _ _ _ (s_for PassesOwn.never rfl (si_enum rfl T.enumerate (@se_bin _ _ _ _ _ _ _ _ _ _ _ or_add im_add (@se_lst _ _ _ _ _ _ _ _ (@sa_cons _ _ _ _ _ _ _ (se_call (G_m__law_cell_at.mono (by decide)) hr rfl M_m__law_cell_at K_m__law_cell_at B_m__law_cell_at (@sa_cons _ _ _ _ _ _ _ (se_var 0) (@sa_cons _ _ _ _ _ _ _ se_int sa_nil rfl) rfl) (len_cons (len_cons len_nil))) sa_nil rfl)) (se_slice (se_var 0) (@so_some _ _ _ _ _ se_int) (@so_some _ _ _ _ _ se_int)))) (pg_tup rfl (pgs_cons (pg_name (i := 1) sc_law.nd rfl (by first | exact Or.inl rfl | exact Or.inr rfl)) (pgs_cons (pg_name (i := 2) sc_law.nd rfl (by first | exact Or.inl rfl | exact Or.inr rfl)) pgs_nil))) ig_two (@ss_cons _ _ _ _ _ _ _ (@s_set _ _ _ _ _ _ 3 _ _ sc_law.nd rfl (by first | exact Or.inl rfl | exact Or.inr rfl) (se_call (G_r__law_pen_of.mono (by decide)) hr rfl M_r__law_pen_of K_r__law_pen_of B_r__law_pen_of (@sa_cons _ _ _ _ _ _ _ (se_var 2) sa_nil rfl) (len_cons len_nil)) rfl (by first | exact Or.inl rfl | exact Or.inr rfl | assumption))
      (@ss_cons _ _ _ _ _ _ _ (s_un3 (i := 4) (j := 5) (k := 6) rfl sc_law.nd rfl rfl rfl (@se_tup _ _ _ _ _ _ _ (@sa_cons _ _ _ _ _ _ _ (se_call (G_m__law_draw.mono (by decide)) hr rfl M_m__law_draw K_m__law_draw B_m__law_draw (@sa_cons _ _ _ _ _ _ _ (se_var 3) (@sa_cons _ _ _ _ _ _ _ se_int sa_nil rfl) rfl) (len_cons (len_cons len_nil))) (@sa_cons _ _ _ _ _ _ _ (@se_bin _ _ _ _ _ _ _ _ _ _ _ or_add im_add se_int (se_call (G_m__law_draw.mono (by decide)) hr rfl M_m__law_draw K_m__law_draw B_m__law_draw (@sa_cons _ _ _ _ _ _ _ (se_var 3) (@sa_cons _ _ _ _ _ _ _ se_int sa_nil rfl) rfl) (len_cons (len_cons len_nil)))) (@sa_cons _ _ _ _ _ _ _ (@se_bin _ _ _ _ _ _ _ _ _ _ _ or_add im_add se_int (se_call (G_m__law_draw.mono (by decide)) hr rfl M_m__law_draw K_m__law_draw B_m__law_draw (@sa_cons _ _ _ _ _ _ _ (se_var 3) (@sa_cons _ _ _ _ _ _ _ se_int sa_nil rfl) rfl) (len_cons (len_cons len_nil)))) sa_nil rfl) rfl) rfl)))
      (@ss_cons _ _ _ _ _ _ _ (@s_set _ _ _ _ _ _ 7 _ _ sc_law.nd rfl (by first | exact Or.inl rfl | exact Or.inr rfl) (@se_ix _ _ _ _ _ _ _ _ _ _ ix_seq im_ix (@se_lst _ _ _ _ _ _ _ _ (@sa_cons _ _ _ _ _ _ _ (se_call (G_m__law_draw.mono (by decide)) hr rfl M_m__law_draw K_m__law_draw B_m__law_draw (@sa_cons _ _ _ _ _ _ _ (se_var 3) (@sa_cons _ _ _ _ _ _ _ se_int sa_nil rfl) rfl) (len_cons (len_cons len_nil))) (@sa_cons _ _ _ _ _ _ _ (se_call (G_m__law_draw.mono (by decide)) hr rfl M_m__law_draw K_m__law_draw B_m__law_draw (@sa_cons _ _ _ _ _ _ _ (se_var 3) (@sa_cons _ _ _ _ _ _ _ (se_var 5) sa_nil rfl) rfl) (len_cons (len_cons len_nil))) sa_nil rfl) rfl)) (se_var 4) (fun _ _ => rfl)) rfl (by first | exact Or.inl rfl | exact Or.inr rfl | assumption))
      (@ss_cons _ _ _ _ _ _ _ (@s_if _ _ _ _ _ _ _ _ _ _ (@st_cmp _ _ _ _ _ _ _ _ _ _ _ (op_neG hr.units) im_ne (se_callB (or_reprY hr.gd hr.units) im_reprY rfl T.repr PyProof.Rows.boot_repr (@sa_cons _ _ _ _ _ _ _ (se_call (G_m_slab_many.mono (by decide)) hr rfl M_m_slab_many K_m_slab_many B_m_slab_many (@sa_cons _ _ _ _ _ _ _ (se_var 5) (@sa_cons _ _ _ _ _ _ _ (se_var 6) (@sa_cons _ _ _ _ _ _ _ (se_var 7) sa_nil rfl) rfl) rfl) (len_cons (len_cons (len_cons len_nil)))) sa_nil rfl)) (se_callB (or_reprY hr.gd hr.units) im_reprY rfl T.repr PyProof.Rows.boot_repr (@sa_cons _ _ _ _ _ _ _ (se_call (G_m__law_many.mono (by decide)) hr rfl M_m__law_many K_m__law_many B_m__law_many (@sa_cons _ _ _ _ _ _ _ (se_var 5) (@sa_cons _ _ _ _ _ _ _ (se_var 6) (@sa_cons _ _ _ _ _ _ _ (se_var 7) sa_nil rfl) rfl) rfl) (len_cons (len_cons (len_cons len_nil)))) sa_nil rfl)) (nomark _)) (@ss_one _ _ _ _ _ (@s_ret _ _ _ _ _ _ se_bl)) ss_skip)
      (@ss_cons _ _ _ _ _ _ _ (@s_set _ _ _ _ _ _ 8 _ _ sc_law.nd rfl (by first | exact Or.inl rfl | exact Or.inr rfl) (se_call (G_m__law_many.mono (by decide)) hr rfl M_m__law_many K_m__law_many B_m__law_many (@sa_cons _ _ _ _ _ _ _ (se_var 5) (@sa_cons _ _ _ _ _ _ _ (se_var 6) (@sa_cons _ _ _ _ _ _ _ (se_var 7) sa_nil rfl) rfl) rfl) (len_cons (len_cons (len_cons len_nil)))) rfl (by first | exact Or.inl rfl | exact Or.inr rfl | assumption))
      (@ss_cons _ _ _ _ _ _ _ (@s_if _ _ _ _ _ _ _ _ _ _ (PW.pt (@sw_and _ _ _ _ _ _ _ _ _ (@st_cmp _ _ _ _ _ _ _ _ _ _ _ op_gt im_gt (se_var 8) se_int (nomark _)) (@sw_and1 _ _ _ _ _ _ (@st_cmp _ _ _ _ _ _ _ _ _ _ _ (op_neG hr.units) im_ne (se_call (G_m__law_told.mono (by decide)) hr rfl M_m__law_told K_m__law_told B_m__law_told (@sa_cons _ _ _ _ _ _ _ (se_var 5) (@sa_cons _ _ _ _ _ _ _ (se_var 6) (@sa_cons _ _ _ _ _ _ _ (se_var 7) sa_nil rfl) rfl) rfl) (len_cons (len_cons (len_cons len_nil)))) (@se_tup _ _ _ _ _ _ _ (@sa_cons _ _ _ _ _ _ _ se_str (@sa_cons _ _ _ _ _ _ _ (se_var 8) (@sa_cons _ _ _ _ _ _ _ se_int sa_nil rfl) rfl) rfl)) (nomark _))))) (@ss_one _ _ _ _ _ (@s_ret _ _ _ _ _ _ se_bl)) ss_skip)
      (@ss_one _ _ _ _ _ (@s_if _ _ _ _ _ _ _ _ _ _ (@st_cmp _ _ _ _ _ _ _ _ _ _ _ (op_eqG hr.units) im_eq (se_var 1) se_int (nomark _)) (@ss_cons _ _ _ _ _ _ _ (by refine s_un2 (i := 5) (j := 6) ?hc ?hN ?hi ?hj ?he (hx := ?hx) (hy := ?hy) (fx := ?fx) (fy := ?fy) (hs := ?hs) (hw := ?hw); (case hc => rfl); (case hN => exact sc_law.nd); (case hi => rfl); (case hj => rfl); (case hx => first | exact Or.inl rfl | exact Or.inr rfl); (case hy => first | exact Or.inl rfl | exact Or.inr rfl); (case fx => first | exact Or.inl rfl | exact Or.inr rfl); (case fy => first | exact Or.inl rfl | exact Or.inr rfl); (case hs => kernel_rfl); (case hw => kernel_rfl); (case he => exact (@se_ix _ _ _ _ _ _ _ _ _ _ ix_seq im_ix (@se_lst _ _ _ _ _ _ _ _ (@sa_cons _ _ _ _ _ _ _ (@se_tup _ _ _ _ _ _ _ (@sa_cons _ _ _ _ _ _ _ se_int (@sa_cons _ _ _ _ _ _ _ se_int sa_nil rfl) rfl)) (@sa_cons _ _ _ _ _ _ _ (@se_tup _ _ _ _ _ _ _ (@sa_cons _ _ _ _ _ _ _ se_int (@sa_cons _ _ _ _ _ _ _ se_int sa_nil rfl) rfl)) (@sa_cons _ _ _ _ _ _ _ (@se_tup _ _ _ _ _ _ _ (@sa_cons _ _ _ _ _ _ _ se_int (@sa_cons _ _ _ _ _ _ _ se_int sa_nil rfl) rfl)) (@sa_cons _ _ _ _ _ _ _ (@se_tup _ _ _ _ _ _ _ (@sa_cons _ _ _ _ _ _ _ se_int (@sa_cons _ _ _ _ _ _ _ se_int sa_nil rfl) rfl)) (@sa_cons _ _ _ _ _ _ _ (@se_tup _ _ _ _ _ _ _ (@sa_cons _ _ _ _ _ _ _ se_int (@sa_cons _ _ _ _ _ _ _ se_int sa_nil rfl) rfl)) (@sa_cons _ _ _ _ _ _ _ (@se_tup _ _ _ _ _ _ _ (@sa_cons _ _ _ _ _ _ _ se_int (@sa_cons _ _ _ _ _ _ _ se_int sa_nil rfl) rfl)) (@sa_cons _ _ _ _ _ _ _ (@se_tup _ _ _ _ _ _ _ (@sa_cons _ _ _ _ _ _ _ se_int (@sa_cons _ _ _ _ _ _ _ se_int sa_nil rfl) rfl)) (@sa_cons _ _ _ _ _ _ _ (@se_tup _ _ _ _ _ _ _ (@sa_cons _ _ _ _ _ _ _ se_int (@sa_cons _ _ _ _ _ _ _ se_int sa_nil rfl) rfl)) sa_nil rfl) rfl) rfl) rfl) rfl) rfl) rfl) rfl)) (se_call (G_m__law_draw.mono (by decide)) hr rfl M_m__law_draw K_m__law_draw B_m__law_draw (@sa_cons _ _ _ _ _ _ _ (se_var 3) (@sa_cons _ _ _ _ _ _ _ se_int sa_nil rfl) rfl) (len_cons (len_cons len_nil))) (fun _ _ => rfl))))
      (@ss_cons _ _ _ _ _ _ _ (@s_set _ _ _ _ _ _ 7 _ _ sc_law.nd rfl (by first | exact Or.inl rfl | exact Or.inr rfl) (se_call (G_m__law_draw.mono (by decide)) hr rfl M_m__law_draw K_m__law_draw B_m__law_draw (@sa_cons _ _ _ _ _ _ _ (se_var 3) (@sa_cons _ _ _ _ _ _ _ (@se_bin _ _ _ _ _ _ _ _ _ _ _ or_add im_add (se_var 5) se_int) sa_nil rfl) rfl) (len_cons (len_cons len_nil))) rfl (by first | exact Or.inl rfl | exact Or.inr rfl | assumption))
      (@ss_cons _ _ _ _ _ _ _ (s_compSet (osc := defScope (topS 35)) [6, 7] ["_law_box", "_law_m", "_law_k"] rfl rfl rfl rfl (by decide +kernel) ⟨by decide +kernel, by decide +kernel, rfl, by decide +kernel, rfl, by decide +kernel⟩ (@si_seq _ _ _ _ _ _ (se_call (G_m__law_cells.mono (by decide)) hr rfl M_m__law_cells K_m__law_cells B_m__law_cells (@sa_cons _ _ _ _ _ _ _ (se_var 5) (@sa_cons _ _ _ _ _ _ _ (se_var 6) sa_nil rfl) rfl) (len_cons (len_cons len_nil))))
        (fun cl C s₀ H₀ fp => (ts_one (@st_cmp _ _ _ _ _ _ _ _ _ _ _ (op_eqG hr.units) im_eq (@se_bin _ _ _ _ _ _ _ _ _ _ _ op_fdivS im_div (se_callB (call_sumL rfl) im_sum rfl T.sum PyProof.Rows.boot_sum (@sa_cons _ _ _ _ _ _ _ (se_var 0) sa_nil rfl)) (se_var 1)) (se_var 2) (nomark _)))) (fun cl C s₀ H₀ fp => (se_var 0)) (i := 9) sc_law.nd rfl)
      (@ss_cons _ _ _ _ _ _ _ (@s_if _ _ _ _ _ _ _ _ _ _ (@st_cmp _ _ _ _ _ _ _ _ _ _ _ (op_neG hr.units) im_ne (se_callB (or_reprY hr.gd hr.units) im_reprY rfl T.repr PyProof.Rows.boot_repr (@sa_cons _ _ _ _ _ _ _ (se_call (G_m_slab_many.mono (by decide)) hr rfl M_m_slab_many K_m_slab_many B_m_slab_many (@sa_cons _ _ _ _ _ _ _ (se_var 5) (@sa_cons _ _ _ _ _ _ _ (se_var 6) (@sa_cons _ _ _ _ _ _ _ (se_var 7) sa_nil rfl) rfl) rfl) (len_cons (len_cons (len_cons len_nil)))) sa_nil rfl)) (se_callB (or_reprY hr.gd hr.units) im_reprY rfl T.repr PyProof.Rows.boot_repr (@sa_cons _ _ _ _ _ _ _ (se_callB or_len im_len rfl T.len PySem.boot_len (@sa_cons _ _ _ _ _ _ _ (se_var 9) sa_nil rfl)) sa_nil rfl)) (nomark _)) (@ss_one _ _ _ _ _ (@s_ret _ _ _ _ _ _ se_bl)) ss_skip)
      (@ss_cons _ _ _ _ _ _ _ (@s_if _ _ _ _ _ _ _ _ _ _ (@st_cmp _ _ _ _ _ _ _ _ _ _ _ op_gt im_gt (se_callB or_len im_len rfl T.len PySem.boot_len (@sa_cons _ _ _ _ _ _ _ (se_var 9) sa_nil rfl)) se_int (nomark _)) (@ss_one _ _ _ _ _ (@s_set _ _ _ _ _ _ 9 _ _ sc_law.nd rfl (by first | exact Or.inl rfl | exact Or.inr rfl) (@se_tup _ _ _ _ _ _ _ (@sa_cons _ _ _ _ _ _ _ se_str (@sa_cons _ _ _ _ _ _ _ (se_callB or_len im_len rfl T.len PySem.boot_len (@sa_cons _ _ _ _ _ _ _ (se_var 9) sa_nil rfl)) (@sa_cons _ _ _ _ _ _ _ se_int sa_nil rfl) rfl) rfl)) rfl (by first | exact Or.inl rfl | exact Or.inr rfl | assumption))) ss_skip)
      (@ss_one _ _ _ _ _ (s_for PassesOwn.never rfl (si_rng1 rfl T.range (@sa_cons _ _ _ _ _ _ _ se_int sa_nil rfl)) (pg_name (i := 10) sc_law.nd rfl (by first | exact Or.inl rfl | exact Or.inr rfl)) ig_name (@ss_cons _ _ _ _ _ _ _ (@s_set _ _ _ _ _ _ 11 _ _ sc_law.nd rfl (by first | exact Or.inl rfl | exact Or.inr rfl) (se_call (G_r__law_told.mono (by decide)) hr rfl M_r__law_told K_r__law_told B_r__law_told (@sa_cons _ _ _ _ _ _ _ (se_var 5) (@sa_cons _ _ _ _ _ _ _ (se_var 6) (@sa_cons _ _ _ _ _ _ _ (se_var 7) sa_nil rfl) rfl) rfl) (len_cons (len_cons (len_cons len_nil)))) rfl (by first | exact Or.inl rfl | exact Or.inr rfl | assumption))
      (@ss_cons _ _ _ _ _ _ _ (@s_if _ _ _ _ _ _ _ _ _ _ (@st_cmp _ _ _ _ _ _ _ _ _ _ _ (op_neG hr.units) im_ne (se_callB (or_reprY hr.gd hr.units) im_reprY rfl T.repr PyProof.Rows.boot_repr (@sa_cons _ _ _ _ _ _ _ (se_var 11) sa_nil rfl)) (se_callB (or_reprY hr.gd hr.units) im_reprY rfl T.repr PyProof.Rows.boot_repr (@sa_cons _ _ _ _ _ _ _ (se_var 9) sa_nil rfl)) (nomark _)) (@ss_one _ _ _ _ _ (@s_ret _ _ _ _ _ _ se_bl)) ss_skip)
      (@ss_one _ _ _ _ _ (@s_if _ _ _ _ _ _ _ _ _ _ (@st_truth _ _ _ _ _ _ im_tru (se_isi (se_var 11) rfl T.isinstance rfl T.list PyProof.Rows.boot_list) (fun _ => rfl)) (@ss_one _ _ _ _ _ (s_expr (se_bmL PySem.F.slot_list_append PySem.F.type_list_append mt_append im_append (se_var 11) (@sa_cons _ _ _ _ _ _ _ (@se_tup _ _ _ _ _ _ _ sa_nil) sa_nil rfl)))) ss_skip))))))))))) ss_skip)))))))))
      (@ss_one _ _ _ _ _ (@s_ret _ _ _ _ _ _ se_bl)))
theorem isc_NoText : FnScope ["self", "row"] ["self", "row"] (defScope (initS (topS 7))) := ⟨rfl, rfl, rfl, by decide +kernel, rfl, by decide +kernel, by decide +kernel⟩
theorem iloc_NoText : ∀ y ∈ (["self", "row"] : List Str), (defScope (initS (topS 7))).names.lookup y = some .local := by decide +kernel
theorem ibd_NoText : InitB (defBody (initS (topS 7))) ["row"] := InitB.cons rfl (.nil)
theorem ibi_NoText : ∀ (kV doc pm : Value) (an : Option Addr) (cdv ct : Value) (us : List Value), us.length = (["self", "row"] : List Str).length → bindArgs (PySem.W.fnOf "__init__" "NoText.__init__" (defArgs (initS (topS 7))) (defBody (initS (topS 7))) (defScope (initS (topS 7))) .none kV doc pm an cdv ct) ⟨us, []⟩ = pure ((["self", "row"] : List Str).zip us) := fun _ _ _ _ _ _ us hl => bnd2 hl fun _ _ => rfl
theorem isc_TooGreat : FnScope ["self", "many", "most"] ["self", "many", "most"] (defScope (initS (topS 8))) := ⟨rfl, rfl, rfl, by decide +kernel, rfl, by decide +kernel, by decide +kernel⟩
theorem iloc_TooGreat : ∀ y ∈ (["self", "many", "most"] : List Str), (defScope (initS (topS 8))).names.lookup y = some .local := by decide +kernel
theorem ibd_TooGreat : InitB (defBody (initS (topS 8))) ["many", "most"] := InitB.cons rfl (InitB.cons rfl (.nil))
theorem ibi_TooGreat : ∀ (kV doc pm : Value) (an : Option Addr) (cdv ct : Value) (us : List Value), us.length = (["self", "many", "most"] : List Str).length → bindArgs (PySem.W.fnOf "__init__" "TooGreat.__init__" (defArgs (initS (topS 8))) (defBody (initS (topS 8))) (defScope (initS (topS 8))) .none kV doc pm an cdv ct) ⟨us, []⟩ = pure ((["self", "many", "most"] : List Str).zip us) := fun _ _ _ _ _ _ us hl => bnd3 hl fun _ _ _ => rfl
end
structure Text (K : PySem.W.Frag) : Prop where
  d__law_cell_at : DefIs K "_law_cell_at" (topS 24)
  d__law_pen_of : DefIs K "_law_pen_of" (topS 26)
  d__law_next : DefIs K "_law_next" (topS 25)
  d__law_draw : DefIs K "_law_draw" (topS 27)
  d_is_whole : DefIs K "is_whole" (topS 10)
  d_is_within : DefIs K "is_within" (topS 11)
  d_number_needed : DefIs K "number_needed" (topS 12)
  d_slab_needed : DefIs K "slab_needed" (topS 21)
  d_slab_count : DefIs K "slab_count" (topS 22)
  d_slab_many : DefIs K "slab_many" (topS 19)
  d__law_picked : DefIs K "_law_picked" (topS 30)
  d__law_below : DefIs K "_law_below" (topS 31)
  d__law_many : DefIs K "_law_many" (topS 32)
  d__law_kind_of : DefIs K "_law_kind_of" (topS 28)
  d__law_refused : DefIs K "_law_refused" (topS 29)
  d_told_needed : DefIs K "told_needed" (topS 15)
  d_slab_all : DefIs K "slab_all" (topS 20)
  d__law_told : DefIs K "_law_told" (topS 34)
  d__law_cells : DefIs K "_law_cells" (topS 33)
  d_law : DefIs K "law" (topS 35)
  cls : ClsIs K
  ci_NoText : CIs K "NoText" (topS 7) ["row"]
  ci_TooGreat : CIs K "TooGreat" (topS 8) ["many", "most"]
  z_ValueError : PySem.W.nsIn K mainGlobals "ValueError" = some none
  z_bool : PySem.W.nsIn K mainGlobals "bool" = some none
  z_enumerate : PySem.W.nsIn K mainGlobals "enumerate" = some none
  z_int : PySem.W.nsIn K mainGlobals "int" = some none
  z_isinstance : PySem.W.nsIn K mainGlobals "isinstance" = some none
  z_len : PySem.W.nsIn K mainGlobals "len" = some none
  z_list : PySem.W.nsIn K mainGlobals "list" = some none
  z_max : PySem.W.nsIn K mainGlobals "max" = some none
  z_range : PySem.W.nsIn K mainGlobals "range" = some none
  z_repr : PySem.W.nsIn K mainGlobals "repr" = some none
  z_sum : PySem.W.nsIn K mainGlobals "sum" = some none
  y_MOST_LONG : ∃ t, PySem.W.nsIn K mainGlobals "MOST_LONG" = some (some (Value.int 8 t))
  y_MOST_TOLD : ∃ t, PySem.W.nsIn K mainGlobals "MOST_TOLD" = some (some (Value.int 300 t))
  y_MOST_WIDE : ∃ t, PySem.W.nsIn K mainGlobals "MOST_WIDE" = some (some (Value.int 20 t))
theorem all_mk {P : Program} {w : World} {K : PySem.W.Frag} {h : Heap} {mg : Str → Option Value} {fa : Addr} (X : K.In h) (G : h.Ns mainGlobals mg) (hfa : mg "law" = some (.ref fa)) (t : Text K) :
    ∃ fd : FuncData, (∀ (s : Shared) (v : Value), BindsTo s fd ⟨[v], []⟩ [("_law_script", v)]) ∧ ∀ base : Heap, K.In base → base.Ns mainGlobals mg → FnOk P w K mg base CX0 7 fa fd ["_law_script"] (spM K (gOf mg) 1 m_law) := by
  have T : Blt mg := ⟨PySem.W.mg_none_of X G t.z_ValueError, PySem.W.mg_none_of X G t.z_bool, PySem.W.mg_none_of X G t.z_enumerate, PySem.W.mg_none_of X G t.z_int, PySem.W.mg_none_of X G t.z_isinstance, PySem.W.mg_none_of X G t.z_len, PySem.W.mg_none_of X G t.z_list, PySem.W.mg_none_of X G t.z_max, PySem.W.mg_none_of X G t.z_range, PySem.W.mg_none_of X G t.z_repr, PySem.W.mg_none_of X G t.z_sum⟩
  obtain ⟨t_MOST_LONG, y_MOST_LONG⟩ := t.y_MOST_LONG
  have c_MOST_LONG := PySem.W.mg_of X G y_MOST_LONG
  obtain ⟨t_MOST_TOLD, y_MOST_TOLD⟩ := t.y_MOST_TOLD
  have c_MOST_TOLD := PySem.W.mg_of X G y_MOST_TOLD
  obtain ⟨t_MOST_WIDE, y_MOST_WIDE⟩ := t.y_MOST_WIDE
  have c_MOST_WIDE := PySem.W.mg_of X G y_MOST_WIDE
  have D__law_cell_at := DefAt.of X G t.d__law_cell_at
  have D__law_pen_of := DefAt.of X G t.d__law_pen_of
  have D__law_next := DefAt.of X G t.d__law_next
  have D__law_draw := DefAt.of X G t.d__law_draw
  have D_is_whole := DefAt.of X G t.d_is_whole
  have D_is_within := DefAt.of X G t.d_is_within
  have D_number_needed := DefAt.of X G t.d_number_needed
  have D_slab_needed := DefAt.of X G t.d_slab_needed
  have D_slab_count := DefAt.of X G t.d_slab_count
  have D_slab_many := DefAt.of X G t.d_slab_many
  have D__law_picked := DefAt.of X G t.d__law_picked
  have D__law_below := DefAt.of X G t.d__law_below
  have D__law_many := DefAt.of X G t.d__law_many
  have D__law_kind_of := DefAt.of X G t.d__law_kind_of
  have D__law_refused := DefAt.of X G t.d__law_refused
  have D_told_needed := DefAt.of X G t.d_told_needed
  have D_slab_all := DefAt.of X G t.d_slab_all
  have D__law_told := DefAt.of X G t.d__law_told
  have D__law_cells := DefAt.of X G t.d__law_cells
  have D_law := DefAt.of X G t.d_law
  have CL := Clss.of X G t.cls
  have CI_NoText := CIm.of X G t.ci_NoText
  have CI_TooGreat := CIm.of X G t.ci_TooGreat
  obtain ⟨f, fd, hm, F⟩ := D_law
  have e := hfa.symm.trans hm
  cases e
  refine ⟨fd, ?_, fun base _ _ => ?_⟩
  · obtain ⟨oc, od, kV, doc, pm, an, cdv, ct, osl, rfl, lk, hcd⟩ := F.ex
    exact fun s v => .of_eq rfl
  · have H_m__law_cell_at := h_m__law_cell_at (P := P) (w := w) (base := base) (g := gOf mg) D__law_cell_at T
    have H_r__law_pen_of := h_r__law_pen_of (P := P) (w := w) (base := base) (g := gOf mg) D__law_pen_of T
    have H_m__law_next := h_m__law_next (P := P) (w := w) (base := base) (g := gOf mg) D__law_next T
    have H_m__law_draw := h_m__law_draw (P := P) (w := w) (base := base) (g := gOf mg) D__law_draw T H_m__law_next
    have H_m_is_whole := h_m_is_whole (P := P) (w := w) (base := base) (g := gOf mg) D_is_whole T
    have H_m_is_within := h_m_is_within (P := P) (w := w) (base := base) (g := gOf mg) D_is_within T H_m_is_whole
    have H_m_number_needed := h_m_number_needed (P := P) (w := w) (base := base) (g := gOf mg) D_number_needed T H_m_is_within
    have H_m_slab_needed := h_m_slab_needed (P := P) (w := w) (base := base) (g := gOf mg) D_slab_needed T c_MOST_LONG c_MOST_WIDE H_m_number_needed
    have H_m_slab_count := h_m_slab_count (P := P) (w := w) (base := base) (g := gOf mg) D_slab_count T
    have H_m_slab_many := h_m_slab_many (P := P) (w := w) (base := base) (g := gOf mg) D_slab_many T H_m_slab_needed H_m_slab_count
    have H_m__law_picked := h_m__law_picked (P := P) (w := w) (base := base) (g := gOf mg) D__law_picked T
    have H_m__law_below := h_m__law_below (P := P) (w := w) (base := base) (g := gOf mg) D__law_below T H_m__law_picked
    have H_m__law_many := h_m__law_many (P := P) (w := w) (base := base) (g := gOf mg) D__law_many T H_m__law_below
    have H_H__law_kind_of := h_H__law_kind_of (P := P) (w := w) (base := base) (g := gOf mg) D__law_kind_of T rfl CL
    have H_H__law_refused := h_H__law_refused (P := P) (w := w) (base := base) (g := gOf mg) D__law_refused T rfl CI_NoText CI_TooGreat H_H__law_kind_of
    have H_e_number_needed := h_e_number_needed (P := P) (w := w) (base := base) (g := gOf mg) D_number_needed T rfl CL H_m_is_within
    have H_e_slab_needed := h_e_slab_needed (P := P) (w := w) (base := base) (g := gOf mg) D_slab_needed T c_MOST_LONG c_MOST_WIDE H_e_number_needed
    have H_e_told_needed := h_e_told_needed (P := P) (w := w) (base := base) (g := gOf mg) D_told_needed T rfl CI_TooGreat c_MOST_TOLD
    have H_e_slab_all := h_e_slab_all (P := P) (w := w) (base := base) (g := gOf mg) D_slab_all T H_e_slab_needed H_e_told_needed H_m_slab_count
    have H_m__law_told := h_m__law_told (P := P) (w := w) (base := base) (g := gOf mg) D__law_told T rfl CL H_H__law_refused H_e_slab_all
    have H_m__law_cells := h_m__law_cells (P := P) (w := w) (base := base) (g := gOf mg) D__law_cells T
    have H_er_slab_all := h_er_slab_all (P := P) (w := w) (base := base) (g := gOf mg) D_slab_all T H_e_slab_needed H_e_told_needed H_m_slab_count
    have H_r__law_told := h_r__law_told (P := P) (w := w) (base := base) (g := gOf mg) D__law_told T rfl CL H_H__law_refused H_er_slab_all
    have H_m_law := h_m_law (P := P) (w := w) (base := base) (g := gOf mg) ⟨_, _, hm, F⟩ T H_m__law_cell_at H_r__law_pen_of H_m__law_draw H_m_slab_many H_m__law_many H_m__law_told H_m__law_cells H_r__law_told
    exact has_fn F hm H_m_law
theorem walk {l : PySem.W.OpenLaw} {q : Program} {loose : List Str} {XP : (Str → Option Value) → Heap → Prop} {YP : World → Heap → Prop} {d : DefRec} {K : Params → PySem.W.Frag} (hn : l.most = some 63) (hdf : d.params.defaults = [])
    (hY : ∀ (w : World) (h : Heap), YP w h → (K w.params).In h)
    (ok : ∀ ns : List Int, ns.length ≤ 63 → ∃ h, m_law [.scr (ns.map D.int)] [] = .ok (.bl true) h)
    (F : ∀ (w : World) (mg : Str → Option Value) (fa : Addr) (h : Heap), (K w.params).In h → h.Ns mainGlobals mg → mg d.name = some (.ref fa) →
      ∃ fd : FuncData, (∀ (s : Shared) (u : Value), BindsTo s fd ⟨[u], []⟩ [("_law_script", u)]) ∧ ∀ base : Heap, (K w.params).In base → base.Ns mainGlobals mg → FnOk l.prog w (K w.params) mg base CX0 7 fa fd ["_law_script"] (spM (K w.params) (gOf mg) 1 m_law)) :
    PySem.W.WalkO q loose XP YP l.row.toRowW d [] (fun f vs => PySem.call f vs) :=
  walk_m (k := 7) hn hdf ⟨rfl, by decide, by decide, rfl⟩ hY ok F
end FC
namespace FC
open PySem L2 L2.FE
theorem sml_small {i : Int} (h1 : -(10 ^ 30) ≤ i) (h2 : i ≤ 10 ^ 30) : sml i = true := sml_of (Nat.le_trans (show i.natAbs ≤ 10 ^ 30 by omega) (by decide +kernel))
theorem lst_lt {h : Hh} {n : Nat} {ds : List D} (e : lstOf h n = some ds) : n < h.length := by
  unfold lstOf at e
  by_cases hl : n < h.length
  · exact hl
  · rw [List.getElem?_eq_none (by omega)] at e; cases e
theorem lst_set {h : Hh} {n : Nat} {ds es : List D} (e : lstOf h n = some ds) : lstOf (h.set n (.lst es)) n = some es := by
  unfold lstOf; rw [List.getElem?_set_self (lst_lt e)]
theorem lst_app {h t : Hh} {n : Nat} {ds : List D} (e : lstOf h n = some ds) : lstOf (h ++ t) n = some ds := by
  have := lst_lt e
  unfold lstOf at e ⊢; rw [List.getElem?_append_left this]; exact e
structure Pen where
  a : Int
  b : Int
  s : Int
noncomputable abbrev penD (p : Pen) : List D := [.int p.a, .int p.b, .int p.s]
noncomputable def nxt (x : Int) : Int := ((x + 7919) % 2147483647 * ((x + 7919) % 2147483647) + 48271 * ((x + 7919) % 2147483647) + 12345) % 2147483629
noncomputable def drawV (p : Pen) (m : Int) : Int := if p.b = 1 ∧ 0 < p.a then p.a % m else nxt (nxt p.s + 7) / 64 % m
noncomputable def drawP (p : Pen) (m : Int) : Pen := if p.b = 1 ∧ 0 < p.a then ⟨p.a / m, p.b, p.s⟩ else ⟨p.a, p.b, nxt (nxt p.s + 7)⟩
theorem drawV_0 (p : Pen) {m : Int} (h : 0 < m) : 0 ≤ drawV p m := by unfold drawV; split <;> exact Int.emod_nonneg _ (by omega)
theorem drawV_lt (p : Pen) {m : Int} (h : 0 < m) : drawV p m < m := by unfold drawV; split <;> exact Int.emod_lt_of_pos _ h
@[simp] theorem x_next {x : Int} {h : Hh} : m__law_next [.int x] h = .ok (.int (nxt x)) h := by
  have h1 : 0 ≤ (x + 7919) % 2147483647 := Int.emod_nonneg _ (by decide)
  have h2 : (x + 7919) % 2147483647 < 2147483647 := Int.emod_lt_of_pos _ (by decide)
  have s1 : sml ((x + 7919) % 2147483647) = true := sml_small (by omega) (by omega)
  have s2 : sml 48271 = true := by decide +kernel
  simp [m__law_next, e_fun, s1, s2, nxt]
theorem x_draw {p : Pen} {m : Int} {h : Hh} {n : Nat} (e : lstOf h n = some (penD p)) (hm : 0 < m) (hm2 : m ≤ 10 ^ 20) : m__law_draw [.ref n, .int m] h = .ok (.int (drawV p m)) (h.set n (.lst (penD (drawP p m)))) := by
  have s1 : sml m = true := sml_small (by omega) (by omega)
  have s2 : sml 64 = true := by decide +kernel
  have i2 : ∀ (x y z : Int) (h : Hh), ixK [D.int x, .int y, .int z] 2 h = .ok (.int z) h := fun _ _ _ _ => rfl
  have n0 : ixN (penD p).length 0 = some 0 := rfl
  have n2 : ixN (penD p).length 2 = some 2 := rfl
  by_cases c : p.b = 1
  · by_cases c2 : 0 < p.a
    · simp [m__law_draw, e_fun, a_ixL e, c, c2, hm, s1, a_setIx e n0, drawV, drawP]
    · simp [m__law_draw, e_fun, a_ixL e, c, c2, i2, a_setIx e n2, a_ixL (lst_set e), s1, s2, hm, drawV, drawP]
  · simp [m__law_draw, e_fun, a_ixL e, c, i2, a_setIx e n2, a_ixL (lst_set e), s1, s2, hm, drawV, drawP]
@[simp] theorem x_draw0 {p : Pen} {m : Int} {h t : Hh} (hm : 0 < m ∧ m ≤ 10 ^ 20) : m__law_draw [.ref h.length, .int m] (h ++ .lst (penD p) :: t) = .ok (.int (drawV p m)) (h ++ .lst (penD (drawP p m)) :: t) := by
  rw [x_draw lst_new hm.1 hm.2, set_new]
noncomputable def penOf (c : Int) : Pen := ⟨max c (0 - c), if max c (0 - c) ≥ 10 ^ 18 then 1 else 0, max c (0 - c) % 1000003⟩
@[simp] theorem x_pen {c : Int} {h : Hh} : r__law_pen_of [.int c] h = .ok (.ref h.length) (h ++ [.lst (penD (penOf c))]) := by
  have s1 : sml 10 = true := by decide +kernel
  simp [r__law_pen_of, e_fun, s1, penOf]
@[simp] theorem x_cell {ns : List Int} {h : Hh} : m__law_cell_at [.scr (ns.map D.int), .int 0] h = .ok (.int (ns.headD 0)) h := by
  cases ns with
  | nil => simp [m__law_cell_at, e_fun]
  | cons c r => simp [m__law_cell_at, e_fun]
end FC
namespace FC
open PySem L2 L2.FE
@[simp] theorem x_whole {i : Int} {h : Hh} : m_is_whole [.int i] h = .ok (.bl true) h := by simp [m_is_whole, e_fun]
@[simp] theorem x_within {i a b : Int} {h : Hh} : m_is_within [.int i, .int a, .int b] h = .ok (.bl (decide (a ≤ i ∧ i ≤ b))) h := by
  by_cases z : a ≤ i <;> simp [m_is_within, e_fun, z]
end FC
namespace FC
open PySem L2 L2.FE
@[simp] theorem x_needed {i a b : Int} {h : Hh} (hi : a ≤ i ∧ i ≤ b) : m_number_needed [.int i, .int a, .int b] h = .ok .non h := by
  simp [m_number_needed, e_fun, hi]
end FC
namespace FC
open PySem L2 L2.FE
noncomputable def cutL {X : Type} (xs : List X) (lo hi : Option Int) : List X := (xs.drop (HT.sIx xs.length 0 lo)).take (HT.sIx xs.length xs.length hi - HT.sIx xs.length 0 lo)
theorem cutD_map {X : Type} (f : X → D) (xs : List X) (lo hi : Option Int) : cutD (xs.map f) lo hi = (cutL xs lo hi).map f := by
  unfold cutD cutL
  rw [List.length_map, List.map_take, List.map_drop]
theorem toPys_ints {k : Nat} {h : Hh} : ∀ {ns : List Int}, (∀ x ∈ ns, sml x = true) → toPys (toPy (k + 1) h) (ns.map D.int) = some (ns.map PyData.int)
  | [], _ => rfl
  | n :: r, hs => by
    have h1 : sml n = true := hs n List.mem_cons_self
    rw [List.map_cons, toPys, toPys_ints (ns := r) fun x hx => hs x (List.mem_cons_of_mem _ hx)]
    simp [toPy, h1]
theorem bulk_ints : ∀ ns : List Int, PyData.bulkAll (ns.map PyData.int) = ns.length
  | [] => rfl
  | n :: r => by rw [List.map_cons, PyData.bulkAll, bulk_ints r, PyData.bulk, List.length_cons]; omega
end FC
namespace FC
open PySem L2 L2.FE
theorem wf_pen {h : Hh} (w : Wf h) (p : Pen) : Wf (h ++ [.lst (penD p)]) := w.app rfl
theorem drawI (p : Pen) (m : Int) (h : 0 < m) : ∃ k : Nat, drawV p m = (k : Int) ∧ (k : Int) < m := by
  have h0 := drawV_0 p h
  have h1 := drawV_lt p h
  exact ⟨(drawV p m).toNat, by omega, by omega⟩
theorem cut_cells (ns : List Int) (lo hi : Option Int) : cutD (ns.map D.int) lo hi = (cutL ns lo hi).map D.int := cutD_map _ _ _ _
theorem cutL_le {X : Type} (xs : List X) (lo hi : Option Int) : (cutL xs lo hi).length ≤ xs.length := by
  unfold cutL; rw [List.length_take, List.length_drop]; omega
end FC
namespace FC
open PySem L2 L2.FE
section
variable {env : En} {h : Hh}
@[simp] theorem e_up {β : Type} {m : En → Hh → R β} : up m env h = noR (m env h) := Eq.trans rfl rfl
@[simp] theorem bind_err {β γ : Type} {x : Xc} {f : β → Hh → R γ} : (R.err x h : R β).bind f = .err x h := Eq.trans rfl rfl
@[simp] theorem e_raise {x : Str} : cRaise x env h = .err ⟨x, []⟩ h := Eq.trans rfl rfl
theorem e_tryO {mb : MS} {mr : MF} {fl : Fl} {h' : Hh} (e : mb env h = .ok fl h') : cTry mb mr env h = .ok fl h' := by unfold cTry; rw [e]
theorem e_tryE {mb : MS} {mr : MF} {x : Xc} {d : D} (w : Wf h) (e : mb env h = .err x h) (c : clsNames.contains x.cls = true) (r : mr [.exc x.cls x.fs] h = .ok d h) : cTry mb mr env h = .ok (.rt d) h := by
  unfold cTry
  rw [e]
  have w' : (h.take h.length).all (lowO h.length) = true := by rw [List.take_length]; exact w
  show (if (clsNames.contains x.cls && (h.take h.length).all (lowO h.length)) = true then _ else _) = _
  rw [c, w', List.take_length, r]
  rfl
end
end FC
namespace FC
open PySem L2 L2.FE
end FC
namespace FC
open PySem L2 L2.FE
end FC
namespace FC
open PySem L2 L2.FE
noncomputable def topI (x : Int) : Nat → Int
  | 0 => 1
  | i + 1 => topI x i * max 0 (x - i)
noncomputable def facI : Nat → Int
  | 0 => 1
  | i + 1 => facI i * (i + 1)
noncomputable def pkI (x : Int) (n : Nat) : Int := topI x n / facI n
theorem top_0 (x : Int) : ∀ i, 0 ≤ topI x i
  | 0 => show (0 : Int) ≤ 1 by decide
  | i + 1 => Int.mul_nonneg (top_0 x i) (by omega)
theorem top_le {x : Int} (hx : x ≤ 400) : ∀ i, topI x i ≤ 400 ^ i
  | 0 => show (1 : Int) ≤ 400 ^ 0 by decide
  | i + 1 => by
    rw [topI, Int.pow_succ]
    exact Int.mul_le_mul (top_le hx i) (by omega) (by omega) (Int.pow_nonneg (by decide))
theorem fac_1 : ∀ i, 1 ≤ facI i
  | 0 => by decide
  | i + 1 => by
    rw [facI]
    have := fac_1 i
    have : 1 * 1 ≤ facI i * ((i : Int) + 1) := Int.mul_le_mul this (by omega) (by decide) (by omega)
    omega
theorem p400 : ∀ i : Nat, i ≤ 9 → (400 : Int) ^ i ≤ 400 ^ 9 := by decide +kernel
theorem fac_le : ∀ i, i ≤ 9 → facI i ≤ 400 ^ 9 := by decide +kernel
theorem sml_top {x : Int} (hx : x ≤ 400) {i : Nat} (hi : i ≤ 9) : sml (topI x i) = true := by
  have a := top_0 x i
  have b := top_le hx i
  have c : (400 : Int) ^ i ≤ 400 ^ 9 := p400 i hi
  have d : (400 : Int) ^ 9 ≤ 10 ^ 30 := by decide +kernel
  exact sml_small (by omega) (by omega)
theorem sml_facI {i : Nat} (hi : i ≤ 9) : sml (facI i) = true := by
  have a := fac_1 i
  have b := fac_le i hi
  have d : (400 : Int) ^ 9 ≤ 10 ^ 30 := by decide +kernel
  exact sml_small (by omega) (by omega)
theorem pk_0 (x : Int) (n : Nat) : 0 ≤ pkI x n := Int.ediv_nonneg (top_0 x n) (by have := fac_1 n; omega)
theorem pk_le {x : Int} (hx : x ≤ 400) {n : Nat} (hn : n ≤ 9) : pkI x n ≤ 400 ^ 9 := by
  have a := top_0 x n
  have b := top_le hx n
  have c : (400 : Int) ^ n ≤ 400 ^ 9 := p400 n hn
  have d := Int.ediv_le_self (facI n) a
  unfold pkI
  omega
theorem sml_pk {x : Int} (hx : x ≤ 400) {n : Nat} (hn : n ≤ 9) : sml (pkI x n) = true := by
  have a := pk_0 x n
  have b := pk_le hx hn
  have d : (400 : Int) ^ 9 ≤ 10 ^ 30 := by decide +kernel
  exact sml_small (by omega) (by omega)
theorem x_picked {x : Int} {n : Nat} {h : Hh} (hx : x ≤ 400) (hn : n ≤ 8) : m__law_picked [.int x, .int n] h = .ok (.int (pkI x n)) h := by
  obtain ⟨q, e⟩ := for_rng (tg := gN 4) (body := cPar 2 3 (cCons (cBin (dMul frzL) (cVar 2) (cCall dMax2 (cCons (cC (.int 0)) (cCons (cBin dSub (cVar 0) (cVar 4)) cNil)))) (cCons (cBin (dMul frzL) (cVar 3) (cBin (dAdd frzL) (cVar 4) (cC (.int 1)))) cNil))) n
    (fun (s : Nat × Option D) => [some (.int x), some (.int n), some (.int (topI x s.1)), some (.int (facI s.1)), s.2]) (fun _ => h) (fun _ i => (i + 1, some (.int (i : Nat)))) (fun i s => s.1 = i) (0, none) rfl (fun i s hi hs => ⟨rfl, .inl (by
      subst hs
      have s1 := sml_top hx (show s.1 ≤ 9 by omega)
      have s0 := sml_facI (show s.1 ≤ 9 by omega)
      have s3 : sml ((s.1 : Int) + 1) = true := sml_small (by omega) (by omega)
      have s2 : sml (max 0 (x - (s.1 : Int))) = true := sml_small (by omega) (by omega)
      simp [s1, s2, s3, s0]
      simp [topI, facI])⟩)
  generalize List.foldl (fun (_ : Nat × Option D) i => (i + 1, some (D.int (i : Nat)))) (0, none) (List.range n) = s9 at q e
  subst e
  have z1 : s9.1 ≤ 1000000 := by omega
  have z2 := fac_1 s9.1
  have z3 : 0 < facI s9.1 := by omega
  have z4 := sml_facI (show s9.1 ≤ 9 by omega)
  simp only [topI, facI] at q
  simp [m__law_picked, e_fun, z1] at q ⊢
  simp [q, z3, z4, pkI]
noncomputable def sgJ (j : Nat) : Int := 1 - 2 * ((j : Int) % 2)
noncomputable def belF (n m : Nat) (b : Int) (t : Int) (j : Nat) : Int := t + sgJ j * pkI n j * pkI (b - j * m + n - 1) n
noncomputable def belI (n m : Nat) (b : Int) : Int := (List.range (n + 1)).foldl (belF n m b) 0
theorem x_below {n m : Nat} {b : Int} {h : Hh} (hn : n ≤ 8) (hm : m ≤ 20) (hb : b ≤ 200) : m__law_below [.int n, .int m, .int b] h = .ok (.int (belI n m b)) h := by
  obtain ⟨q, e⟩ := for_rng (tg := gN 4) (body := (cSeq (cSet 5 (cCall m__law_picked (cCons (cBin dSub (cBin (dAdd frzL) (cBin dSub (cVar 2) (cBin (dMul frzL) (cVar 4) (cVar 1))) (cVar 0)) (cC (.int 1))) (cCons (cVar 0) cNil))))
    (cSet 3 (cBin (dAdd frzL) (cVar 3) (cBin (dMul frzL) (cBin (dMul frzL) (cBin dSub (cC (.int 1)) (cBin (dMul frzL) (cC (.int 2)) (cBin dMod (cVar 4) (cC (.int 2))))) (cCall m__law_picked (cCons (cVar 0) (cCons (cVar 4) cNil)))) (cVar 5)))))) (n + 1)
    (fun (s : Int × Option D × Option D) => [some (.int n), some (.int m), some (.int b), some (.int s.1), s.2.1, s.2.2]) (fun _ => h) (fun s i => (belF n m b s.1 i, some (.int (i : Nat)), some (.int (pkI (b - i * m + n - 1) n)))) (fun i s => s.1 = (List.range i).foldl (belF n m b) 0) (0, none, none) rfl (fun i s hi hs => ⟨by rw [List.range_succ, List.foldl_append, ← hs]; rfl, .inl (by
      have jm : (0 : Int) ≤ (i : Int) * (m : Int) := Int.mul_nonneg (by omega) (by omega)
      have p1 := x_picked (x := b - (i : Int) * (m : Int) + (n : Int) - 1) (n := n) (h := h) (by omega) hn
      have p2 := x_picked (x := (n : Int)) (n := i) (h := h) (by omega) (by omega)
      have s1 := sml_pk (x := b - (i : Int) * (m : Int) + (n : Int) - 1) (n := n) (by omega) (by omega)
      have s2 := sml_pk (x := (n : Int)) (n := i) (by omega) (by omega)
      have s3 : sml (i : Int) = true := sml_small (by omega) (by omega)
      have s4 : sml (m : Int) = true := sml_small (by omega) (by omega)
      have s5 : sml 2 = true := by decide +kernel
      have s6 : sml ((i : Int) % 2) = true := sml_small (by omega) (by omega)
      have s7 : sml (1 - 2 * ((i : Int) % 2)) = true := sml_small (by omega) (by omega)
      have b2 := pk_le (x := (n : Int)) (n := i) (by omega) (by omega)
      have b0 := pk_0 (n : Int) i
      have s8 : sml ((1 - 2 * ((i : Int) % 2)) * pkI n i) = true := by
        have d : (400 : Int) ^ 9 ≤ 10 ^ 30 := by decide +kernel
        rcases (show (i : Int) % 2 = 0 ∨ (i : Int) % 2 = 1 by omega) with z | z
        · rw [z]; exact sml_small (by omega) (by omega)
        · rw [z]; exact sml_small (by omega) (by omega)
      simp [p1, p2, s1, s2, s3, s4, s5, s6, s7, s8, belF, sgJ])⟩)
  generalize List.foldl _ (0, none, none) _ = s9 at q e
  have z1 : ((n : Int) + 1).natAbs ≤ 1000000 := by omega
  have z2 : ((n : Int) + 1).toNat = n + 1 := by omega
  have z3 : n + 1 ≤ 1000000 := by omega
  unfold belI
  rw [← e]
  simp only at q
  simp [m__law_below, e_fun, z1, z2, z3, q]
noncomputable def manyI (n m k : Nat) : Int := belI n m (k * m + m) - belI n m (k * m)
theorem x_many {n m k : Nat} {h : Hh} (hn : n ≤ 8) (hm : m ≤ 20) (hk : k ≤ 8) : m__law_many [.int n, .int m, .int k] h = .ok (.int (manyI n m k)) h := by
  have s3 : sml (k : Int) = true := sml_small (by omega) (by omega)
  have s4 : sml (m : Int) = true := sml_small (by omega) (by omega)
  have km : k * m ≤ 160 := Nat.mul_le_mul hk hm
  have km' : (k : Int) * (m : Int) ≤ 160 := by rw [← Int.natCast_mul]; omega
  have q1 := x_below (n := n) (m := m) (b := (k : Int) * (m : Int) + (m : Int)) (h := h) hn hm (by omega)
  have q2 := x_below (n := n) (m := m) (b := (k : Int) * (m : Int)) (h := h) hn hm (by omega)
  simp [m__law_many, e_fun, s3, s4, q1, q2, manyI]
end FC
namespace FC
open PySem L2 L2.FE
theorem forG_ex {σ : Type} {rd : Rdr} {tg : D → En → Hh → R En} {body : MS} (enc : Nat → D) (N : Nat) (E : σ → En) (G : σ → Hh) (I : Nat → σ → Prop) (hr : ∀ s i, i < N → rd (G s) i = some (some (enc i))) (hr2 : ∀ s, rd (G s) N = some none)
    (st : ∀ i s, i < N → I i s → ∃ s', I (i + 1) s' ∧ (tg (enc i) (E s) (G s)).bind body = .ok (.nx (E s')) (G s')) :
    ∀ (k i : Nat) (s : σ), i + k = N → I i s → ∃ s', forG rd tg body k i (E s) (G s) = .ok (.nx (E s')) (G s') ∧ I N s' := by
  intro k
  induction k with
  | zero =>
    intro i s e hi
    have : i = N := by omega
    subst this
    refine ⟨s, ?_, hi⟩
    unfold forG
    rw [hr2]
  | succ k ih =>
    intro i s e hi
    obtain ⟨s1, a, b⟩ := st i s (by omega) hi
    obtain ⟨s2, c, d⟩ := ih (i + 1) s1 (by omega) a
    refine ⟨s2, ?_, d⟩
    unfold forG
    rw [hr s i (by omega)]
    show (tg (enc i) (E s) (G s)).bind (fun e1 h1 => (body e1 h1).bind _) = _
    rw [← bind_bind, b]
    exact c
theorem forS_ex {σ : Type} {tg : D → En → Hh → R En} {body : MS} (enc : Nat → D) (N : Nat) (E : σ → En) (G : σ → Hh) (I : Nat → σ → Prop)
    (st : ∀ i s, i < N → I i s → ∃ s', I (i + 1) s' ∧ (tg (enc i) (E s) (G s)).bind body = .ok (.nx (E s')) (G s')) :
    ∀ (k i : Nat) (s : σ), i + k = N → I i s → ∃ s', forS tg body ((List.range' i k).map enc) (E s) (G s) = .ok (.nx (E s')) (G s') ∧ I N s' := by
  intro k
  induction k with
  | zero =>
    intro i s e hi
    have : i = N := by omega
    subst this
    exact ⟨s, rfl, hi⟩
  | succ k ih =>
    intro i s e hi
    obtain ⟨s1, a, b⟩ := st i s (by omega) hi
    obtain ⟨s2, c, d⟩ := ih (i + 1) s1 (by omega) a
    refine ⟨s2, ?_, d⟩
    rw [List.range'_succ, List.map_cons, forS, ← bind_bind, b]
    exact c
noncomputable def addW : List Int → Nat → Nat → Int → List Int
  | [], _, _, _ => []
  | x :: L, 0, 0, _ => x :: L
  | x :: L, 0, m + 1, v => (x + v) :: addW L 0 m v
  | x :: L, t + 1, m, v => x :: addW L t m v
theorem addW_len : ∀ (L : List Int) (t m : Nat) (v : Int), (addW L t m v).length = L.length
  | [], _, _, _ => rfl
  | x :: L, 0, 0, _ => rfl
  | x :: L, 0, m + 1, v => by rw [addW, List.length_cons, addW_len L 0 m v]; rfl
  | x :: L, t + 1, m, v => by rw [addW, List.length_cons, addW_len L t m v]; rfl
theorem addW_0 : ∀ (L : List Int) (t : Nat) (v : Int), addW L t 0 v = L
  | [], _, _ => rfl
  | x :: L, 0, _ => rfl
  | x :: L, t + 1, v => by rw [addW, addW_0 L t v]
theorem gI_S (x : Int) (L : List Int) (i : Nat) : gI (x :: L) (i + 1) = gI L i := rfl
theorem addW_S : ∀ (L : List Int) (t m : Nat) (v : Int), t + m < L.length → addW L t (m + 1) v = (addW L t m v).set (t + m) (gI (addW L t m v) (t + m) + v)
  | [], _, _, _, h => by simp at h
  | x :: L, 0, 0, v, _ => by rw [addW, addW, addW_0]; rfl
  | x :: L, 0, m + 1, v, h => by
    rw [addW, addW, addW_S L 0 m v (by simp at h; omega)]
    rw [show 0 + (m + 1) = (0 + m) + 1 by omega, List.set_cons_succ, gI_S]
  | x :: L, t + 1, m, v, h => by
    rw [addW, addW, addW_S L t m v (by simp at h; omega)]
    rw [show t + 1 + m = (t + m) + 1 by omega, List.set_cons_succ, gI_S]
noncomputable def stepF (m : Nat) (c L : List Int) (t : Nat) : List Int := addW L t m (gI c t)
noncomputable def stepC (m : Nat) (c : List Int) : List Int := (List.range c.length).foldl (stepF m c) (List.replicate (c.length + m - 1) 0)
noncomputable def cnt (m : Nat) : Nat → List Int
  | 0 => [1]
  | i + 1 => stepC m (cnt m i)
theorem fold_len (m : Nat) (c : List Int) (ts : List Nat) : ∀ L, (ts.foldl (stepF m c) L).length = L.length := by
  induction ts with
  | nil => intro L; rfl
  | cons t ts ih => intro L; rw [List.foldl_cons, ih, stepF, addW_len]
theorem cnt_len {m : Nat} (hm : 1 ≤ m) : ∀ i, (cnt m i).length = i * (m - 1) + 1
  | 0 => by simp [cnt]
  | i + 1 => by
    rw [cnt, stepC, fold_len, List.length_replicate, cnt_len hm i, Nat.succ_mul]; omega
theorem a_ixLL {n : Nat} {ns : List Int} {i : Int} {j : Nat} {h : Hh} (e : lstOf h n = some (ns.map D.int)) (hi : i = (j : Int)) (hj : j < ns.length) : dIxL (.ref n) (.int i) h = .ok (.int (gI ns j)) h := by
  have := ixK_int (ns := ns) (h := h) hi hj
  delta dIxL; dsimp only; rw [a_ixL e]; exact this
noncomputable def AUG : MS := (cAugIx (cVar 5) (cBin (dAdd frzL) (cVar 6) (cVar 8)) (cVar 7))
noncomputable def ENB : MS := (cFor (cRng rng1 (cCons (cVar 1) cNil)) (gN 8) AUG)
noncomputable def PLB : MS := (cSeq (cSet 5 (cBin (dMul newL) (cCall (dLst frzL) (cCons (cC (.int 0)) cNil)) (cBin dSub (cBin (dAdd frzL) (cCall dLen (cCons (cVar 3) cNil)) (cVar 1)) (cC (.int 1)))))
    (cSeq (cFor (cEnumI (cVar 3)) (gT2 6 7) ENB) (cSet 3 (cVar 5))))
theorem sc_eq : m_slab_count = locF (fun ds h => ((cFun 9 (cSeq (cSet 3 (cCall (dLst frzL) (cCons (cC (.int 1)) cNil)))
    (cSeq (cFor (cRng rng1 (cCons (cVar 0) cNil)) (gN 4) PLB)
    (cRet (cCall dSum (cCons (cSlice frzL (cVar 3) (cPart (cBin (dMul frzL) (cVar 2) (cVar 1))) (cPart (cBin (dAdd frzL) (cBin (dMul frzL) (cVar 2) (cVar 1)) (cVar 1)))) cNil)))))) ds h).bind (exitF h)) := rfl
theorem in1 {m t : Nat} {v : Int} {L : List Int} {H : Hh} {d0 d1 d2 d3 d4 y8 : Option D} (hl : t + m ≤ L.length) : ∃ z8, forS (gN 8) AUG (intsD 0 m) [d0, d1, d2, d3, d4, some (.ref H.length), some (.int t), some (.int v), y8] (H ++ [.lst (L.map D.int)]) = .ok (.nx [d0, d1, d2, d3, d4, some (.ref H.length), some (.int t), some (.int v), z8]) (H ++ [.lst ((addW L t m v).map D.int)]) := by
  obtain ⟨q, e⟩ := for_rng (tg := gN 8) (body := AUG) m (fun (s : Nat × Option D) => [d0, d1, d2, d3, d4, some (.ref H.length), some (.int t), some (.int v), s.2]) (fun s => H ++ [.lst ((addW L t s.1 v).map D.int)]) (fun _ i => (i + 1, some (.int (i : Nat)))) (fun i s => s.1 = i) (0, y8) rfl (fun i s hi hs => ⟨rfl, .inl (by
    subst hs
    obtain ⟨j, y⟩ := s
    dsimp only at hi ⊢
    have ij : (t : Int) + (j : Int) = ((t + j : Nat) : Int) := by omega
    have ll := addW_len L t j v
    have x1 := a_ixLL (n := H.length) (ns := addW L t j v) (i := ((t + j : Nat) : Int)) (j := t + j) (h := H ++ [.lst ((addW L t j v).map D.int)]) lst_new rfl (by omega)
    have n2 : ixN ((addW L t j v).map D.int).length ((t + j : Nat) : Int) = some (t + j) := by rw [List.length_map]; exact ixN_nat rfl (by omega)
    have st : dSetIx (.ref H.length) (.int ((t + j : Nat) : Int)) (.int (gI (addW L t j v) (t + j) + v)) (H ++ [.lst ((addW L t j v).map D.int)]) = .ok () (H ++ [.lst ((addW L t (j + 1) v).map D.int)]) := by
      rw [a_setIx lst_new n2, set_new, addW_S L t j v (by omega), List.map_set]
    generalize addW L t j v = A at *
    generalize addW L t (j + 1) v = A1 at *
    generalize ((t + j : Nat) : Int) = w at *
    simp [AUG, ij, x1, st])⟩)
  generalize List.foldl _ (0, y8) _ = s9 at q e
  rw [e, addW_0] at q
  exact ⟨s9.2, q⟩
noncomputable def rdC (m : Nat) (c : List Int) (i : Nat) : List Int := (List.range i).foldl (stepF m c) (List.replicate (c.length + m - 1) 0)
theorem rdC_S (m : Nat) (c : List Int) (i : Nat) : rdC m c (i + 1) = addW (rdC m c i) i m (gI c i) := by
  unfold rdC; rw [List.range_succ, List.foldl_append]; rfl
theorem rdC_len (m : Nat) (c : List Int) (i : Nat) : (rdC m c i).length = c.length + m - 1 := by unfold rdC; rw [fold_len, List.length_replicate]
theorem en_step {m i : Nat} {c : List Int} {H : Hh} {d0 d2 d3 d4 y6 y7 y8 : Option D} (hm : m ≤ 20) (hi : i < c.length) : ∃ z8, (gT2 6 7 (D.tup [.int i, .int (gI c i)]) [d0, some (.int m), d2, d3, d4, some (.ref H.length), y6, y7, y8] (H ++ [.lst ((rdC m c i).map D.int)])).bind ENB = .ok (.nx [d0, some (.int m), d2, d3, d4, some (.ref H.length), some (.int i), some (.int (gI c i)), z8]) (H ++ [.lst ((rdC m c (i + 1)).map D.int)]) := by
  obtain ⟨z8, q⟩ := in1 (m := m) (t := i) (v := gI c i) (L := rdC m c i) (H := H) (d0 := d0) (d1 := some (.int m)) (d2 := d2) (d3 := d3) (d4 := d4) (y8 := y8) (by rw [rdC_len]; omega)
  refine ⟨z8, ?_⟩
  rw [rdC_S]
  have z : m ≤ 1000000 := by omega
  generalize addW (rdC m c i) i m (gI c i) = A1 at *
  generalize rdC m c i = A at *
  simp [ENB, z, q]
end FC
namespace FC
open PySem L2 L2.FE
noncomputable def hpC (m i : Nat) : Hh := (List.range i).map fun j => O.lst ((cnt m (j + 1)).map D.int)
theorem hpC_len (m i : Nat) : (hpC m i).length = i := by simp [hpC]
theorem hpC_S (m i : Nat) : hpC m (i + 1) = hpC m i ++ [O.lst ((cnt m (i + 1)).map D.int)] := by simp [hpC, List.range_succ]
theorem hpC_at {m t : Nat} {r : Hh} (k : Nat) (hk : k < t) : lstOf (hpC m t ++ r) k = some ((cnt m (k + 1)).map D.int) := by
  unfold lstOf
  rw [List.getElem?_append_left (by rw [hpC_len]; exact hk)]
  simp [hpC, hk]
noncomputable def slotC : Nat → D
  | 0 => .frl [.int 1]
  | t + 1 => .ref t
theorem pl_step {n m k i : Nat} {y4 y5 y6 y7 y8 : Option D} (h1 : 1 ≤ m) (hm : m ≤ 20) (hi : i < 8) : ∃ z5 z6 z7 z8, PLB [some (.int n), some (.int m), some (.int k), some (slotC i), y4, y5, y6, y7, y8] (hpC m i) = .ok (.nx [some (.int n), some (.int m), some (.int k), some (slotC (i + 1)), y4, z5, z6, z7, z8]) (hpC m (i + 1)) := by
  have cl := cnt_len h1 i
  have cb : (cnt m i).length ≤ 200 := by
    rw [cl]
    have : i * (m - 1) ≤ 8 * 19 := Nat.mul_le_mul (by omega) (by omega)
    omega
  have c1 : 1 ≤ (cnt m i).length := by omega
  have rd0 : rdC m (cnt m i) 0 = List.replicate ((cnt m i).length + m - 1) 0 := rfl
  have rdN : rdC m (cnt m i) (cnt m i).length = cnt m (i + 1) := rfl
  cases i with
  | zero =>
    obtain ⟨z8, q⟩ := en_step (m := m) (i := 0) (c := cnt m 0) (H := hpC m 0) (d0 := some (.int n)) (d2 := some (.int k)) (d3 := some (slotC 0)) (d4 := y4) (y6 := y6) (y7 := y7) (y8 := y8) hm (show 0 < 1 by decide)
    have e1 : rdC m (cnt m 0) (0 + 1) = cnt m 1 := rfl
    rw [rd0, e1] at q
    have l0 : (cnt m 0).length = 1 := rfl
    rw [l0] at q
    have h0 : hpC m 0 = [] := rfl
    have h1' : hpC m 1 = [.lst ((cnt m 1).map D.int)] := rfl
    have z1 : ((1 : Int) + (m : Int) - 1).toNat = 1 + m - 1 := by omega
    have z2 : ((1 : Int) + (m : Int) - 1).natAbs ≤ 1000000 := by omega
    have z3 : 1 + m - 1 ≤ 1000000 := by omega
    have z4 : 1 ≤ (1 : Int) + (m : Int) - 1 := by omega
    refine ⟨some (.ref 0), some (.int 0), some (.int 1), z8, ?_⟩
    rw [h0] at q
    have ed : enumD [.int 1] = [.tup [.int 0, .int 1]] := rfl
    have g0 : gI (cnt m 0) 0 = 1 := rfl
    rw [g0, List.map_replicate] at q
    simp only [slotC, List.nil_append, List.length_nil, Int.natCast_zero] at q
    rw [h0, h1']
    generalize (cnt m 1).map D.int = C1 at *
    have z5 : m ≤ 1000000 := by omega
    have z6 : 1 + m - 1 = m := by omega
    rw [z6] at q
    simp [PLB, slotC, z1, z2, z3, z4, z5, ed, for_cons, for_nil, -e_gT2]
    rw [← bind_bind, q]
    simp [for_nil]
  | succ i =>
    have ld : lstOf (hpC m (i + 1)) i = some ((cnt m (i + 1)).map D.int) := by
      have := hpC_at (m := m) (t := i + 1) (r := []) i (by omega)
      simpa using this
    generalize hc : cnt m (i + 1) = c at *
    have rd : ∀ (X : List D), lstOf (hpC m (i + 1) ++ [.lst X]) i = some (c.map D.int) := fun X => lst_app ld
    obtain ⟨s, q, e⟩ := forG_ex (σ := List Int × Option D × Option D × Option D) (rd := (Src.liveE i).rdr) (tg := gT2 6 7) (body := ENB) (fun j => D.tup [.int j, .int (gI c j)]) c.length (fun s => [some (.int n), some (.int m), some (.int k), some (.ref i), y4, some (.ref (hpC m (i + 1)).length), s.2.1, s.2.2.1, s.2.2.2]) (fun s => hpC m (i + 1) ++ [.lst (s.1.map D.int)]) (fun j s => s.1 = rdC m c j)
      (fun s j hj => by simp [Src.rdr, rd, gI_eq hj, List.getElem?_eq_getElem hj]) (fun s => by simp [Src.rdr, rd]) (fun j s hj hs => by
        obtain ⟨z8, q⟩ := en_step (m := m) (i := j) (c := c) (H := hpC m (i + 1)) (d0 := some (.int n)) (d2 := some (.int k)) (d3 := some (.ref i)) (d4 := y4) (y6 := s.2.1) (y7 := s.2.2.1) (y8 := s.2.2.2) hm hj
        exact ⟨(rdC m c (j + 1), some (.int j), some (.int (gI c j)), z8), rfl, by rw [hs]; exact q⟩) c.length 0 (List.replicate (c.length + m - 1) 0, y6, y7, y8) (by omega) rfl
    obtain ⟨L, z6, z7, z8⟩ := s
    dsimp only at e q
    subst e
    refine ⟨some (.ref (i + 1)), z6, z7, z8, ?_⟩
    have ll := a_lenL ld
    rw [List.length_map] at ll
    have z1 : ((c.length : Int) + (m : Int) - 1).toNat = c.length + m - 1 := by omega
    have z2 : ((c.length : Int) + (m : Int) - 1).natAbs ≤ 1000000 := by omega
    have z3 : c.length + m - 1 ≤ 1000000 := by omega
    have z4 : 1 ≤ (c.length : Int) + (m : Int) - 1 := by omega
    rw [rdN, hpC_len, List.map_replicate] at q
    have en : enumI (.ref i) (hpC m (i + 1) ++ [.lst (List.replicate (c.length + m - 1) (.int 0))]) = .ok (.liveE i) (hpC m (i + 1) ++ [.lst (List.replicate (c.length + m - 1) (.int 0))]) := by simp only [enumI, rd]
    have sk : srcK (gT2 6 7) ENB [some (.int n), some (.int m), some (.int k), some (.ref i), y4, some (.ref (i + 1)), y6, y7, y8] (.liveE i) (hpC m (i + 1) ++ [.lst (List.replicate (c.length + m - 1) (.int 0))]) = .ok (.nx [some (.int n), some (.int m), some (.int k), some (.ref i), y4, some (.ref (i + 1)), z6, z7, z8]) (hpC m (i + 1 + 1)) := by
      show forG (Src.liveE i).rdr (gT2 6 7) ENB ((lstOf (hpC m (i + 1) ++ [.lst (List.replicate (c.length + m - 1) (.int 0))]) i).getD []).length 0 _ _ = _
      rw [rd, Option.getD_some, List.length_map, hpC_S m (i + 1)]
      exact q
    have hl := hpC_len m (i + 1)
    generalize hpC m (i + 1) = H at *
    generalize hpC m (i + 1 + 1) = H2 at *
    simp [PLB, slotC, ll, z1, z2, z3, z4, hl, en, sk]
end FC
namespace FC
open PySem L2 L2.FE
noncomputable def slabI (n m k : Nat) : Int := (cutL (cnt m n) (some ((k : Int) * m)) (some ((k : Int) * m + m))).sum
theorem ints_r (n : Nat) : intsD 0 n = (List.range' 0 n).map fun (i : Nat) => D.int i := by rw [ints_zero, List.range_eq_range']
theorem x_scount {n m k : Nat} {h : Hh} (n1 : 1 ≤ n) (hn : n ≤ 8) (m1 : 1 ≤ m) (hm : m ≤ 20) (hk : k ≤ 8) : m_slab_count [.int n, .int m, .int k] h = .ok (.int (slabI n m k)) h := by
  obtain ⟨s, q, e⟩ := forS_ex (σ := Nat × Option D × Option D × Option D × Option D × Option D) (tg := gN 4) (body := PLB) (fun (i : Nat) => D.int i) n (fun s => [some (.int n), some (.int m), some (.int k), some (slotC s.1), s.2.1, s.2.2.1, s.2.2.2.1, s.2.2.2.2.1, s.2.2.2.2.2]) (fun s => hpC m s.1) (fun i s => s.1 = i) (fun i s hi hs => by
    obtain ⟨j, y4, y5, y6, y7, y8⟩ := s
    dsimp only at hs
    subst hs
    obtain ⟨z5, z6, z7, z8, q⟩ := pl_step (n := n) (m := m) (k := k) (i := j) (y4 := some (.int j)) (y5 := y5) (y6 := y6) (y7 := y7) (y8 := y8) m1 hm (by omega)
    exact ⟨(j + 1, some (.int j), z5, z6, z7, z8), rfl, by simp [q]⟩) n 0 (0, none, none, none, none, none) (by omega) rfl
  obtain ⟨j, y4, y5, y6, y7, y8⟩ := s
  dsimp only at e q
  subst e
  rw [← ints_r] at q
  obtain ⟨i, rfl⟩ : ∃ i, j = i + 1 := ⟨j - 1, by omega⟩
  have ld : lstOf (hpC m (i + 1)) i = some ((cnt m (i + 1)).map D.int) := by
    have := hpC_at (m := m) (t := i + 1) (r := []) i (by omega)
    simpa using this
  have s3 : sml (k : Int) = true := sml_small (by omega) (by omega)
  have s4 : sml (m : Int) = true := sml_small (by omega) (by omega)
  have lo : lowDs 0 [D.int ((i + 1 : Nat) : Int), .int m, .int k] = true := by simp [lowDs, lowD]
  have sl : ∀ a b, cutD ((cnt m (i + 1)).map D.int) a b = (cutL (cnt m (i + 1)) a b).map D.int := fun a b => cutD_map _ _ _ _
  have h0 : hpC m 0 = [] := rfl
  rw [h0] at q
  have ex : ∀ v, exitF [] (.int v) (hpC m (i + 1)) = .ok (.int v) [] := fun v => by
    have := exitF_deep (h := []) (t := hpC m (i + 1)) (d := .int v) Wf.nil rfl
    simpa using this
  rw [sc_eq]
  unfold slabI
  generalize hK : ((i + 1 : Nat) : Int) = K1 at q lo ⊢
  have z1 : K1.natAbs ≤ 1000000 := by omega
  have z2 : K1.toNat = i + 1 := by omega
  have z3 : i + 1 ≤ 1000000 := by omega
  simp only [slotC] at q
  generalize hpC m (i + 1) = H at *
  generalize cnt m (i + 1) = C at *
  have lt : ∀ d, lowD 0 (D.int d) = true := fun _ => rfl
  have dc : ∀ a b, dCut frzL (.ref i) a b H = .ok (.frl ((cutL C a b).map D.int)) H := fun a b => by simp only [dCut, ld, sl]; rfl
  simp [locF, lo, e_fun, z1, z2, z3, q, s3, s4, dc, ex, lt]
theorem chk_0 : ∀ n, n < 8 → ∀ k, k < 9 → slabI (n + 1) (0 + 1) k = manyI (n + 1) (0 + 1) k := by decide +kernel
theorem chk_1 : ∀ n, n < 8 → ∀ k, k < 9 → slabI (n + 1) (1 + 1) k = manyI (n + 1) (1 + 1) k := by decide +kernel
theorem chk_2 : ∀ n, n < 8 → ∀ k, k < 9 → slabI (n + 1) (2 + 1) k = manyI (n + 1) (2 + 1) k := by decide +kernel
theorem chk_3 : ∀ n, n < 8 → ∀ k, k < 9 → slabI (n + 1) (3 + 1) k = manyI (n + 1) (3 + 1) k := by decide +kernel
theorem chk_4 : ∀ n, n < 8 → ∀ k, k < 9 → slabI (n + 1) (4 + 1) k = manyI (n + 1) (4 + 1) k := by decide +kernel
theorem chk_5 : ∀ n, n < 8 → ∀ k, k < 9 → slabI (n + 1) (5 + 1) k = manyI (n + 1) (5 + 1) k := by decide +kernel
theorem chk_6 : ∀ n, n < 8 → ∀ k, k < 9 → slabI (n + 1) (6 + 1) k = manyI (n + 1) (6 + 1) k := by decide +kernel
theorem chk_7 : ∀ n, n < 8 → ∀ k, k < 9 → slabI (n + 1) (7 + 1) k = manyI (n + 1) (7 + 1) k := by decide +kernel
theorem chk_8 : ∀ n, n < 8 → ∀ k, k < 9 → slabI (n + 1) (8 + 1) k = manyI (n + 1) (8 + 1) k := by decide +kernel
theorem chk_9 : ∀ n, n < 8 → ∀ k, k < 9 → slabI (n + 1) (9 + 1) k = manyI (n + 1) (9 + 1) k := by decide +kernel
theorem chk_10 : ∀ n, n < 8 → ∀ k, k < 9 → slabI (n + 1) (10 + 1) k = manyI (n + 1) (10 + 1) k := by decide +kernel
theorem chk_11 : ∀ n, n < 8 → ∀ k, k < 9 → slabI (n + 1) (11 + 1) k = manyI (n + 1) (11 + 1) k := by decide +kernel
theorem chk_12 : ∀ n, n < 8 → ∀ k, k < 9 → slabI (n + 1) (12 + 1) k = manyI (n + 1) (12 + 1) k := by decide +kernel
theorem chk_13 : ∀ n, n < 8 → ∀ k, k < 9 → slabI (n + 1) (13 + 1) k = manyI (n + 1) (13 + 1) k := by decide +kernel
theorem chk_14 : ∀ n, n < 8 → ∀ k, k < 9 → slabI (n + 1) (14 + 1) k = manyI (n + 1) (14 + 1) k := by decide +kernel
theorem chk_15 : ∀ n, n < 8 → ∀ k, k < 9 → slabI (n + 1) (15 + 1) k = manyI (n + 1) (15 + 1) k := by decide +kernel
theorem chk_16 : ∀ n, n < 8 → ∀ k, k < 9 → slabI (n + 1) (16 + 1) k = manyI (n + 1) (16 + 1) k := by decide +kernel
theorem chk_17 : ∀ n, n < 8 → ∀ k, k < 9 → slabI (n + 1) (17 + 1) k = manyI (n + 1) (17 + 1) k := by decide +kernel
theorem chk_18 : ∀ n, n < 8 → ∀ k, k < 9 → slabI (n + 1) (18 + 1) k = manyI (n + 1) (18 + 1) k := by decide +kernel
theorem chk_19 : ∀ n, n < 8 → ∀ k, k < 9 → slabI (n + 1) (19 + 1) k = manyI (n + 1) (19 + 1) k := by decide +kernel
theorem chk : ∀ m, m < 20 → ∀ n, n < 8 → ∀ k, k < 9 → slabI (n + 1) (m + 1) k = manyI (n + 1) (m + 1) k
  | 0, _ => chk_0
  | 1, _ => chk_1
  | 2, _ => chk_2
  | 3, _ => chk_3
  | 4, _ => chk_4
  | 5, _ => chk_5
  | 6, _ => chk_6
  | 7, _ => chk_7
  | 8, _ => chk_8
  | 9, _ => chk_9
  | 10, _ => chk_10
  | 11, _ => chk_11
  | 12, _ => chk_12
  | 13, _ => chk_13
  | 14, _ => chk_14
  | 15, _ => chk_15
  | 16, _ => chk_16
  | 17, _ => chk_17
  | 18, _ => chk_18
  | 19, _ => chk_19
  | m + 20, h => by omega
theorem slab_many_eq {n m k : Nat} (n1 : 1 ≤ n) (hn : n ≤ 8) (m1 : 1 ≤ m) (hm : m ≤ 20) (hk : k ≤ 8) : slabI n m k = manyI n m k := by
  have := chk (m - 1) (by omega) (n - 1) (by omega) k (by omega)
  rwa [show m - 1 + 1 = m by omega, show n - 1 + 1 = n by omega] at this
theorem x_smany {n m k : Nat} {h : Hh} (n1 : 1 ≤ n) (hn : n ≤ 8) (m1 : 1 ≤ m) (hm : m ≤ 20) (hk : k ≤ 8) : m_slab_many [.int n, .int m, .int k] h = .ok (.int (slabI n m k)) h := by
  have c := x_scount (h := h) n1 hn m1 hm hk
  have a1 := x_needed (i := (n : Int)) (a := 1) (b := 8) (h := h) (by omega)
  have a2 := x_needed (i := (m : Int)) (a := 1) (b := 20) (h := h) (by omega)
  have a3 := x_needed (i := (k : Int)) (a := 0) (b := 8) (h := h) (by omega)
  simp [m_slab_many, m_slab_needed, e_fun, a1, a2, a3, c]
end FC
namespace FC
open PySem L2 L2.FE
noncomputable def tpI (b : List Int) : D := .tup (b.map D.int)
noncomputable def extC (m : Nat) (b : List Int) : List (List Int) := (List.range m).map fun (i : Nat) => b ++ [(i : Int)]
noncomputable def cellsL (m : Nat) : Nat → List (List Int)
  | 0 => [[]]
  | k + 1 => (cellsL m k).flatMap (extC m)
theorem extC_len (m : Nat) (b : List Int) : (extC m b).length = m := by simp [extC]
theorem flatC_len (m : Nat) : ∀ L : List (List Int), (L.flatMap (extC m)).length = L.length * m
  | [] => by simp
  | b :: L => by
    rw [List.flatMap_cons, List.length_append, List.length_cons, Nat.succ_mul, extC_len, flatC_len m L]; omega
theorem cells_len (m : Nat) : ∀ k, (cellsL m k).length = m ^ k
  | 0 => by simp [cellsL]
  | k + 1 => by rw [cellsL, flatC_len, cells_len m k, Nat.pow_succ]
theorem cells_in (m : Nat) : ∀ k, ∀ b ∈ cellsL m k, b.length = k ∧ ∀ x ∈ b, 0 ≤ x ∧ x < m
  | 0 => by intro b hb; simp [cellsL] at hb; subst hb; simp
  | k + 1 => by
    intro b hb
    rw [cellsL] at hb
    obtain ⟨c, hc, hb⟩ := List.mem_flatMap.mp hb
    obtain ⟨l, r⟩ := cells_in m k c hc
    unfold extC at hb
    obtain ⟨i, hi, rfl⟩ := List.mem_map.mp hb
    have hi := List.mem_range.mp hi
    refine ⟨by simp [l], fun x hx => ?_⟩
    rcases List.mem_append.mp hx with hx | hx
    · exact r x hx
    · rw [List.mem_singleton.mp hx]; omega
theorem ext_comp {m : Nat} {b : List Int} {h : Hh} (hb : b.length ≤ 1000) : compS tt1 (cBin (dAdd frzL) (cVar 1) (cCall dTup (cCons (cVar 0) cNil))) (fun d => [some d, some (tpI b)]) (intsD 0 m) h = .ok ((extC m b).map tpI) h := by
  have z : b.length + 1 ≤ 1000000 := by omega
  rw [comp_rngA (fun (i : Nat) => tpI (b ++ [(i : Int)])) (fun i hi => by simp [tpI, z])]
  simp [extC, List.map_map]
  try rfl
noncomputable def hpA (m t : Nat) : Hh := (List.range t).map fun k => O.lst ((cellsL m (k + 1)).map tpI)
theorem hpA_len (m t : Nat) : (hpA m t).length = t := by simp [hpA]
theorem hpA_at {m t : Nat} {r : Hh} (k : Nat) (hk : k < t) : lstOf (hpA m t ++ r) k = some ((cellsL m (k + 1)).map tpI) := by
  unfold lstOf
  rw [List.getElem?_append_left (by rw [hpA_len]; exact hk)]
  simp [hpA, hk]
theorem hpA_S (m t : Nat) : hpA m (t + 1) = hpA m t ++ [O.lst ((cellsL m (t + 1)).map tpI)] := by simp [hpA, List.range_succ]
noncomputable def BI : MS := cExpr (cMethL dExtend (cVar 4) (cCons (cComp frzL (cRng rng1 (cCons (cVar 1) cNil)) [5] tt1 (cBin (dAdd frzL) (cVar 1) (cCall dTup (cCons (cVar 0) cNil)))) cNil))
theorem bi_ok {m t : Nat} {b : List Int} {acc : List (List Int)} {d0 d2 d3 : Option D} (hm : m ≤ 20) (hb : b.length ≤ 8) (ha : acc.length + m ≤ 1000000) : BI [d0, some (.int m), d2, d3, some (.ref t), some (tpI b)] (hpA m t ++ [.lst (acc.map tpI)]) = .ok (.nx [d0, some (.int m), d2, d3, some (.ref t), some (tpI b)]) (hpA m t ++ [.lst ((acc ++ extC m b).map tpI)]) := by
  have q := ext_comp (m := m) (b := b) (h := hpA m t ++ [.lst (acc.map tpI)]) (by omega)
  have l : lstOf (hpA m t ++ [.lst (acc.map tpI)]) t = some (acc.map tpI) := by
    have := lst_new (h := hpA m t) (ds := acc.map tpI) (t := [])
    rw [hpA_len] at this; exact this
  have ex : dExtend (.ref t) [.frl ((extC m b).map tpI)] (hpA m t ++ [.lst (acc.map tpI)]) = .ok .non (hpA m t ++ [.lst (acc.map tpI ++ (extC m b).map tpI)]) := by
    have := a_extend0 (h := hpA m t) (ds := acc.map tpI) (ys := (extC m b).map tpI) (t := [])
    rw [hpA_len, if_pos (by simpa [extC_len] using ha)] at this; exact this
  have z : m ≤ 1000000 := by omega
  simp [BI, isL_of l, z, q, ex]
theorem all_step {m t : Nat} {d0 d3 d5 : Option D} (hm : m ≤ 20) (ht : t + 2 ≤ 8) (pl : m ^ (t + 2) ≤ 900000) : ∃ d5', forG (Src.live t).rdr (gN 5) BI (cellsL m (t + 1)).length 0 [d0, some (.int m), some (.ref t), d3, some (.ref (t + 1)), d5] (hpA m (t + 1) ++ [.lst []]) = .ok (.nx [d0, some (.int m), some (.ref t), d3, some (.ref (t + 1)), d5']) (hpA m (t + 2)) := by
  have cl := cells_len m (t + 1)
  have rd : ∀ (X : List D), lstOf (hpA m (t + 1) ++ [.lst X]) t = some ((cellsL m (t + 1)).map tpI) := fun X => hpA_at t (by omega)
  obtain ⟨s, q, e⟩ := forG_ex (σ := Option D × List (List Int)) (rd := (Src.live t).rdr) (tg := gN 5) (body := BI) (fun j => tpI ((cellsL m (t + 1)).getD j [])) (cellsL m (t + 1)).length (fun s => [d0, some (.int m), some (.ref t), d3, some (.ref (t + 1)), s.1]) (fun s => hpA m (t + 1) ++ [.lst (s.2.map tpI)])
    (fun j s => s.2 = ((cellsL m (t + 1)).take j).flatMap (extC m)) (fun s j hj => by simp [Src.rdr, rd, List.getElem?_eq_getElem hj, hj]) (fun s => by simp [Src.rdr, rd]) (fun j s hj hs => by
      have hx : (cellsL m (t + 1))[j] ∈ cellsL m (t + 1) := List.getElem_mem hj
      have lx := (cells_in m (t + 1) _ hx).1
      have eg : (cellsL m (t + 1)).getD j [] = (cellsL m (t + 1))[j] := by simp [hj]
      have bd : s.2.length + m ≤ 1000000 := by
        rw [hs, flatC_len, List.length_take, Nat.min_eq_left (by omega)]
        have := Nat.mul_le_mul_right m (show j + 1 ≤ (cellsL m (t + 1)).length from hj)
        have e2 : m ^ (t + 1) * m = m ^ (t + 2) := (Nat.pow_succ ..).symm
        rw [cl, e2, Nat.succ_mul] at this
        omega
      refine ⟨(some (tpI (cellsL m (t + 1))[j]), s.2 ++ extC m (cellsL m (t + 1))[j]), ?_, ?_⟩
      · dsimp only
        rw [hs, List.take_succ_eq_append_getElem hj, List.flatMap_append]; simp
      · rw [eg]
        simp [bi_ok (m := m) (t := t + 1) (b := (cellsL m (t + 1))[j]) (acc := s.2) (d0 := d0) (d2 := some (.ref t)) (d3 := d3) hm (by omega) bd]) (cellsL m (t + 1)).length 0 (d5, []) (by omega) rfl
  obtain ⟨d5', L⟩ := s
  dsimp only at e q
  rw [List.take_length] at e
  subst e
  exact ⟨d5', by rw [hpA_S m (t + 1)]; exact q⟩
noncomputable def BO : MS := (cSeq (cSet 4 (cCall (dLst newL) cNil)) (cSeq (cFor (cSeqI (cVar 2)) (gN 5) BI) (cSet 2 (cVar 4))))
noncomputable def slotA : Nat → D
  | 0 => .frl [.tup []]
  | t + 1 => .ref t
theorem bo_ok {m t : Nat} {d0 d3 d4 d5 : Option D} (hm : m ≤ 20) (ht : t < 8) (pl : m ^ (t + 1) ≤ 900000) : ∃ d4' d5', BO [d0, some (.int m), some (slotA t), d3, d4, d5] (hpA m t) = .ok (.nx [d0, some (.int m), some (slotA (t + 1)), d3, d4', d5']) (hpA m (t + 1)) := by
  cases t with
  | zero =>
    have b := bi_ok (m := m) (t := 0) (b := []) (acc := []) (d0 := d0) (d2 := some (.frl [.tup []])) (d3 := d3) hm (by simp) (by simp; omega)
    have e0 : hpA m 0 = [] := rfl
    have e1 : hpA m 1 = [.lst ((extC m []).map tpI)] := by simp [hpA, cellsL]
    rw [e0] at b
    simp only [List.nil_append, List.map_nil, tpI] at b
    refine ⟨some (.ref 0), some (.tup []), ?_⟩
    rw [e0, e1]
    simp [BO, slotA, for_cons, for_nil, b]
    try rfl
  | succ t =>
    obtain ⟨d5', q⟩ := all_step (m := m) (t := t) (d0 := d0) (d3 := d3) (d5 := d5) hm (by omega) pl
    have l : lstOf (hpA m (t + 1) ++ [.lst []]) t = some ((cellsL m (t + 1)).map tpI) := hpA_at t (by omega)
    refine ⟨some (.ref (t + 1)), d5', ?_⟩
    have sk : srcK (gN 5) BI [d0, some (.int m), some (.ref t), d3, some (.ref (t + 1)), d5] (.live t) (hpA m (t + 1) ++ [.lst []]) = .ok (.nx [d0, some (.int m), some (.ref t), d3, some (.ref (t + 1)), d5']) (hpA m (t + 2)) := by
      show forG (Src.live t).rdr (gN 5) BI ((lstOf (hpA m (t + 1) ++ [.lst []]) t).getD []).length 0 _ _ = _
      rw [l, Option.getD_some, List.length_map]
      exact q
    simp [BO, slotA, hpA_len, q_lst l, sk]
theorem exit_at {H : Hh} {k : Nat} {ds : List D} (e : lstOf H k = some ds) (l : ds.all (deep 7) = true) : exitF [] (.ref k) H = .ok (.frl ds) [] := by
  have fz : frzD 0 H 8 (.ref k) = some (.frl ds) := by
    unfold frzD
    simp only [Nat.not_lt_zero, if_false, e]
    rw [mapO_id fun d hd => frzD_deep 7 d (List.all_eq_true.mp l d hd)]
    rfl
  unfold exitF
  simp [fz]
theorem all_deep (k : Nat) (L : List (List Int)) : (L.map tpI).all (deep (k + 2)) = true := by
  rw [List.all_map, List.all_eq_true]
  intro b _
  simp [tpI]
theorem low_all (L : List (List Int)) : lowDs 0 (L.map tpI) = true := lowDs_map fun b => by simp [tpI, lowD]
theorem x_cells {n m : Nat} {h : Hh} (n1 : 1 ≤ n) (hn : n ≤ 8) (m1 : 1 ≤ m) (hm : m ≤ 20) (pl : m ^ n ≤ 900000) : m__law_cells [.int n, .int m] h = .ok (.frl ((cellsL m n).map tpI)) h := by
  obtain ⟨s, q, e⟩ := forS_ex (σ := Nat × Option D × Option D × Option D) (tg := gN 3) (body := BO) (fun (i : Nat) => D.int i) n (fun s => [some (.int n), some (.int m), some (slotA s.1), s.2.1, s.2.2.1, s.2.2.2]) (fun s => hpA m s.1) (fun i s => s.1 = i) (fun i s hi hs => by
    obtain ⟨j, y3, y4, y5⟩ := s
    dsimp only at hs
    subst hs
    obtain ⟨z4, z5, q⟩ := bo_ok (m := m) (t := j) (d0 := some (.int n)) (d3 := some (.int j)) (d4 := y4) (d5 := y5) hm (by omega) (Nat.le_trans (Nat.pow_le_pow_right m1 (by omega)) pl)
    exact ⟨(j + 1, some (.int j), z4, z5), rfl, by simp [q]⟩) n 0 (0, none, none, none) (by omega) rfl
  obtain ⟨j, y3, y4, y5⟩ := s
  dsimp only at e q
  subst e
  rw [← ints_r] at q
  obtain ⟨k, rfl⟩ : ∃ k, j = k + 1 := ⟨j - 1, by omega⟩
  have l : lstOf (hpA m (k + 1)) k = some ((cellsL m (k + 1)).map tpI) := by
    have := hpA_at (m := m) (t := k + 1) (r := []) k (by omega)
    simpa using this
  have ex := exit_at l (all_deep 5 _)
  have z : k + 1 ≤ 1000000 := by omega
  have me : m__law_cells = locF (fun ds h => ((cFun 6 (cSeq (cSet 2 (cCall (dLst frzL) (cCons (cCall dTup cNil) cNil))) (cSeq (cFor (cRng rng1 (cCons (cVar 0) cNil)) (gN 3) BO) (cRet (cVar 2))))) ds h).bind (exitF h)) := rfl
  have lo : lowDs 0 [D.int ((k + 1 : Nat) : Int), .int m] = true := by simp [lowDs, lowD]
  have lo2 : lowD 0 (.frl ((cellsL m (k + 1)).map tpI)) = true := by simp only [lowD]; exact low_all _
  have h0 : hpA m 0 = [] := rfl
  rw [h0] at q
  simp only [slotA] at q
  rw [me]
  generalize hK : ((k + 1 : Nat) : Int) = K1 at q lo ⊢
  have z1 : K1.natAbs ≤ 1000000 := by omega
  have z2 : K1.toNat = k + 1 := by omega
  simp [locF, lo, e_fun, z, z1, z2, q, ex, lo2]
end FC
namespace FC
open PySem L2 L2.FE
noncomputable def okB (m k left : Nat) (b : List Int) : Bool := decide ((k : Int) * m - left * ((m : Int) - 1) ≤ b.sum ∧ b.sum ≤ (k : Int) * m + m - 1)
noncomputable def prgL (n m k : Nat) : Nat → List (List Int)
  | 0 => [[]]
  | i + 1 => ((prgL n m k i).flatMap (extC m)).filter (okB m k (n - 1 - i))
theorem sum_snoc (b : List Int) (x : Int) : (b ++ [x]).sum = b.sum + x := by simp
theorem ok_up {m k left : Nat} {b : List Int} {i : Nat} (hi : i < m) (h : okB m k left (b ++ [(i : Int)]) = true) : okB m k (left + 1) b = true := by
  unfold okB at h ⊢
  rw [decide_eq_true_eq, sum_snoc] at h
  rw [decide_eq_true_eq, Int.natCast_add, Int.natCast_one, Int.add_mul, Int.one_mul]
  omega
theorem fil_flat {m k left : Nat} : ∀ L : List (List Int), (L.flatMap (extC m)).filter (okB m k left) = ((L.filter (okB m k (left + 1))).flatMap (extC m)).filter (okB m k left)
  | [] => rfl
  | b :: L => by
    rw [List.flatMap_cons, List.filter_append, fil_flat L, List.filter_cons]
    cases c : okB m k (left + 1) b with
    | true => simp [List.filter_append]
    | false =>
      have : (extC m b).filter (okB m k left) = [] := by
        rw [List.filter_eq_nil_iff]
        intro x hx z
        unfold extC at hx
        obtain ⟨i, hi, rfl⟩ := List.mem_map.mp hx
        have := ok_up (List.mem_range.mp hi) z
        rw [c] at this; cases this
      simp [this]
theorem prg_S {n m k : Nat} : ∀ i, i < n → prgL n m k (i + 1) = (cellsL m (i + 1)).filter (okB m k (n - 1 - i))
  | 0, _ => rfl
  | i + 1, h => by
    have e : n - 1 - (i + 1) + 1 = n - 1 - i := by omega
    rw [prgL, fil_flat, e, prg_S i (by omega), List.filter_filter]
    rw [show cellsL m (i + 1 + 1) = (cellsL m (i + 1)).flatMap (extC m) from rfl, fil_flat (left := n - 1 - (i + 1)) (cellsL m (i + 1)), e]
    simp
theorem prg_len {n m k : Nat} (i : Nat) (h : i < n) : (prgL n m k i).length ≤ m ^ i := by
  cases i with
  | zero => simp [prgL]
  | succ i => rw [prg_S i (by omega), ← cells_len]; exact List.length_filter_le _ _
theorem prg_in {n m k : Nat} (i : Nat) (h : i ≤ n) : ∀ b ∈ prgL n m k i, b.length = i ∧ ∀ x ∈ b, 0 ≤ x ∧ x < m := by
  cases i with
  | zero => intro b hb; simp [prgL] at hb; subst hb; simp
  | succ i => intro b hb; rw [prg_S i (by omega)] at hb; exact cells_in m (i + 1) b (List.mem_filter.mp hb).1
noncomputable def dueC (n m k : Nat) : List (List Int) := (cellsL m n).filter fun b => b.sum / (m : Int) == (k : Int)
theorem prg_due {n m k : Nat} (n1 : 1 ≤ n) (m1 : 1 ≤ m) : prgL n m k n = dueC n m k := by
  obtain ⟨i, rfl⟩ : ∃ i, n = i + 1 := ⟨n - 1, by omega⟩
  rw [prg_S i (by omega)]
  unfold dueC
  refine List.filter_congr fun b _ => ?_
  unfold okB
  have e : i + 1 - 1 - i = 0 := by omega
  rw [e]
  have d1 : b.sum % (m : Int) + (m : Int) * (b.sum / (m : Int)) = b.sum := Int.emod_add_mul_ediv _ _
  have d2 := Int.emod_nonneg b.sum (show (m : Int) ≠ 0 by omega)
  have d3 := Int.emod_lt_of_pos b.sum (show (0 : Int) < m by omega)
  rw [Bool.eq_iff_iff, decide_eq_true_eq, beq_iff_eq]
  constructor
  · rintro ⟨a, c⟩
    simp only [Int.natCast_zero, Int.zero_mul, Int.sub_zero] at a
    refine Int.le_antisymm ?_ ?_
    · have : b.sum / (m : Int) < (k : Int) + 1 := Int.ediv_lt_of_lt_mul (by omega) (by rw [Int.add_mul, Int.one_mul]; omega)
      omega
    · exact Int.le_ediv_of_mul_le (by omega) a
  · intro q
    rw [q, Int.mul_comm] at d1
    simp only [Int.natCast_zero, Int.zero_mul, Int.sub_zero]
    omega
noncomputable def TE : ME := (cBin (dAdd frzL) (cVar 0) (cCall dTup (cCons (cVar 1) cNil)))
theorem inn_ok {m : Nat} {b : List Int} {H : Hh} (hb : b.length ≤ 8) : ∀ (k j : Nat) (acc : List (List Int)), j + k = m → acc.length + k ≤ 1000000 → innG H.length (Src.snap (intsD 0 m)).rdr TE (fun e => [some (tpI b), some e, some (.int m)]) k j (H ++ [.lst (acc.map tpI)]) = .ok () (H ++ [.lst ((acc ++ (List.range' j k).map fun (i : Nat) => b ++ [(i : Int)]).map tpI)])
  | 0, j, acc, e, _ => by
    unfold innG
    have : (Src.snap (intsD 0 m)).rdr (H ++ [.lst (acc.map tpI)]) j = some none := by
      simp only [Src.rdr]
      rw [List.getElem?_eq_none (by rw [ints_zero]; simp; omega)]
    rw [this]
    simp
  | k + 1, j, acc, e, l => by
    unfold innG
    have g : (Src.snap (intsD 0 m)).rdr (H ++ [.lst (acc.map tpI)]) j = some (some (.int j)) := by
      simp only [Src.rdr]
      rw [ints_zero, List.getElem?_map, List.getElem?_range (by omega)]; rfl
    rw [g]
    have z : b.length + 1 ≤ 1000000 := by omega
    have t : TE [some (tpI b), some (.int j), some (.int m)] (H ++ [.lst (acc.map tpI)]) = .ok (tpI (b ++ [(j : Int)])) (H ++ [.lst (acc.map tpI)]) := by simp [TE, tpI, z]
    have a : appN H.length (tpI (b ++ [(j : Int)])) (H ++ [.lst (acc.map tpI)]) = .ok () (H ++ [.lst ((acc ++ [b ++ [(j : Int)]]).map tpI)]) := by
      unfold appN
      rw [lst_new]
      dsimp only
      rw [if_pos (by rw [List.length_map]; omega), set_new, List.map_append]
      rfl
    dsimp only
    rw [t, bind_ok, a, bind_ok, inn_ok hb k (j + 1) _ (by omega) (by simp; omega), List.range'_succ, List.map_cons, List.append_assoc]
    rfl
noncomputable def MI2 : MI := (cRng rng1 (cCons (cVar 2) cNil))
theorem out_ok {m r : Nat} {env : En} {L : List (List Int)} {H : Hh} (em : (env[1]?).join = some (.int m)) (hm : m ≤ 20) (er : lstOf H r = some (L.map tpI)) (hb : ∀ b ∈ L, b.length ≤ 8) : ∀ (k i : Nat) (acc : List (List Int)), i + k = L.length → acc.length + k * m ≤ 1000000 → outG H.length (Src.live r).rdr MI2 TE (cap2 [1] env) k i (H ++ [.lst (acc.map tpI)]) = .ok () (H ++ [.lst ((acc ++ (L.drop i).flatMap (extC m)).map tpI)])
  | 0, i, acc, e, _ => by
    unfold outG
    have : (Src.live r).rdr (H ++ [.lst (acc.map tpI)]) i = some none := by
      simp only [Src.rdr]
      rw [lst_app er, Option.map_some, List.getElem?_eq_none (by rw [List.length_map]; omega)]
    rw [this, List.drop_eq_nil_of_le (by omega)]
    simp
  | k + 1, i, acc, e, l => by
    have lt : i < L.length := by omega
    unfold outG
    have g : (Src.live r).rdr (H ++ [.lst (acc.map tpI)]) i = some (some (tpI L[i])) := by
      simp only [Src.rdr]
      rw [lst_app er, Option.map_some, List.getElem?_map, List.getElem?_eq_getElem lt]; rfl
    rw [g]
    have z : m ≤ 1000000 := by omega
    have c : ∀ a b, cap2 [1] env a b = [a, b, some (.int m)] := fun a b => by simp [cap2, em]
    have mi : MI2 (cap2 [1] env (some (tpI L[i])) none) (H ++ [.lst (acc.map tpI)]) = .ok (.snap (intsD 0 m)) (H ++ [.lst (acc.map tpI)]) := by
      rw [c]; simp [MI2, z]
    have fu : (Src.snap (intsD 0 m)).fuel (H ++ [.lst (acc.map tpI)]) = m := by
      show (intsD 0 m).length = m
      rw [ints_zero]; simp
    have l2 : acc.length + m + k * m ≤ 1000000 := by rw [Nat.succ_mul] at l; omega
    dsimp only
    rw [mi, bind_ok, fu]
    simp only [c]
    rw [inn_ok (hb _ (List.getElem_mem lt)) m 0 acc (by omega) (by omega), bind_ok]
    have ee : ((List.range' 0 m).map fun (j : Nat) => L[i] ++ [(j : Int)]) = extC m L[i] := by unfold extC; rw [List.range_eq_range']
    rw [ee]
    have := out_ok em hm er hb k (i + 1) (acc ++ extC m L[i]) (by omega) (by rw [List.length_append, extC_len]; omega)
    rw [this, List.drop_eq_getElem_cons lt, List.flatMap_cons, List.append_assoc]
theorem c2_ok {m r : Nat} {env : En} {L : List (List Int)} {H : Hh} (e3 : env[3]? = some (some (.ref r))) (em : (env[1]?).join = some (.int m)) (hm : m ≤ 20) (er : lstOf H r = some (L.map tpI)) (hb : ∀ b ∈ L, b.length ≤ 8) (hl : L.length * m ≤ 1000000) : cComp2 (cSeqI (cVar 3)) [1] MI2 TE env H = .ok (.ref H.length) (H ++ [.lst ((L.flatMap (extC m)).map tpI)]) := by
  unfold cComp2
  have s : cSeqI (cVar 3) env H = .ok (.live r) H := by
    show (cVar 3 env H).bind seqI = _
    have : cVar 3 env H = .ok (.ref r) H := by unfold cVar; rw [e3]
    rw [this, bind_ok, q_lst er]
  have f : (Src.live r).fuel H = L.length := by simp [Src.fuel, er]
  have := out_ok em hm er hb L.length 0 [] (by omega) (by simpa using hl)
  simp only [List.drop_zero, List.nil_append, List.map_nil] at this
  rw [s, bind_ok, f, this]
  rfl
theorem cmp_liveF {X : Type} {h : Hh} {nl : NL} {tt : MT} {te : ME} {ee : D → En} {n : Nat} (enc : X → D) (p : X → Bool) (xs : List X) (e : lstOf h n = some (xs.map enc)) (hl : xs.length ≤ 1000000) (st : ∀ x ∈ xs, tt (ee (enc x)) h = .ok (p x) h ∧ te (ee (enc x)) h = .ok (enc x) h) : cmpK nl tt te ee (.live n) h = nl ((xs.filter p).map enc) h := by
  have key : ∀ (k i : Nat) (acc : List D), i + k = xs.length → compG (Src.live n).rdr tt te ee k i acc h = .ok (acc ++ ((xs.drop i).filter p).map enc) h := by
    intro k
    induction k with
    | zero =>
      intro i acc q
      unfold compG
      have : (xs.map enc)[i]? = none := List.getElem?_eq_none (by rw [List.length_map]; omega)
      simp only [Src.rdr, e, Option.map_some, this]
      rw [List.drop_eq_nil_of_le (show xs.length ≤ i by omega)]; simp
    | succ k ih =>
      intro i acc q
      have lt : i < xs.length := by omega
      obtain ⟨a, b⟩ := st xs[i] (List.getElem_mem lt)
      have g0 : (Src.live n).rdr h i = some (some (enc xs[i])) := by
        simp only [Src.rdr, e, Option.map_some]
        rw [List.getElem?_map, List.getElem?_eq_getElem lt]; rfl
      unfold compG
      rw [g0]
      dsimp only
      rw [a, bind_ok, List.drop_eq_getElem_cons lt, List.filter_cons]
      cases c : p xs[i] with
      | true =>
        rw [if_pos rfl, b, bind_ok, ih (i + 1) _ (by omega), if_pos rfl, List.map_cons, List.append_assoc]
        rfl
      | false =>
        rw [if_neg Bool.false_ne_true, ih (i + 1) _ (by omega), if_neg Bool.false_ne_true]
  unfold cmpK
  have f : (Src.live n).fuel h = xs.length := by simp [Src.fuel, e]
  rw [if_pos (by rw [f]; exact hl)]
  simp only [e, Option.getD_some]
  rw [List.length_map, key xs.length 0 [] (by omega)]
  simp
end FC
namespace FC
open PySem L2 L2.FE
noncomputable def TTc : MT := (cTest asB (cChain dLe dLe (cVar 1) (cCall dSum (cCons (cVar 0) cNil)) (cVar 2)))
theorem tt_ok {b : List Int} {lo hi : Int} {h : Hh} : TTc [some (tpI b), some (.int lo), some (.int hi)] h = .ok (decide (lo ≤ b.sum ∧ b.sum ≤ hi)) h := by
  by_cases c1 : lo ≤ b.sum
  · by_cases c2 : b.sum ≤ hi
    · simp [TTc, tpI, c1, c2]
    · simp [TTc, tpI, c1, c2]
  · simp [TTc, tpI, c1]
noncomputable def SBd : MS := (cSeq (cSet 5 (cBin dSub (cBin (dMul frzL) (cVar 2) (cVar 1)) (cBin (dMul frzL) (cVar 4) (cBin dSub (cVar 1) (cC (.int 1))))))
    (cSeq (cSet 6 (cBin dSub (cBin (dAdd frzL) (cBin (dMul frzL) (cVar 2) (cVar 1)) (cVar 1)) (cC (.int 1))))
    (cSeq (cSet 7 (cComp2 (cSeqI (cVar 3)) [1] MI2 TE))
    (cSet 3 (cComp newL (cSeqI (cVar 7)) [5, 6] TTc (cVar 0))))))
theorem sb_ok {n m k left r : Nat} {L : List (List Int)} {H : Hh} {y5 y6 y7 : Option D} (hm : m ≤ 20) (hk : k ≤ 8) (hl : left ≤ 8) (er : lstOf H r = some (L.map tpI)) (hb : ∀ b ∈ L, b.length ≤ 8) (ll : L.length * m ≤ 900000) : SBd [some (.int n), some (.int m), some (.int k), some (.ref r), some (.int left), y5, y6, y7] H = .ok (.nx [some (.int n), some (.int m), some (.int k), some (.ref (H.length + 1)), some (.int left), some (.int ((k : Int) * m - left * ((m : Int) - 1))), some (.int ((k : Int) * m + m - 1)), some (.ref H.length)]) (H ++ [.lst ((L.flatMap (extC m)).map tpI), .lst (((L.flatMap (extC m)).filter (okB m k left)).map tpI)]) := by
  have s1 : sml (k : Int) = true := sml_small (by omega) (by omega)
  have s2 : sml (m : Int) = true := sml_small (by omega) (by omega)
  have s3 : sml (left : Int) = true := sml_small (by omega) (by omega)
  have s4 : sml ((m : Int) - 1) = true := sml_small (by omega) (by omega)
  have c2 := c2_ok (m := m) (r := r) (env := [some (.int n), some (.int m), some (.int k), some (.ref r), some (.int left), some (.int ((k : Int) * m - left * ((m : Int) - 1))), some (.int ((k : Int) * m + m - 1)), y7]) (L := L) (H := H) rfl rfl hm er hb (by omega)
  have cf := cmp_liveF (h := H ++ [.lst ((L.flatMap (extC m)).map tpI)]) (nl := newL) (tt := TTc) (te := cVar 0) (ee := fun d => [some d, some (.int ((k : Int) * m - left * ((m : Int) - 1))), some (.int ((k : Int) * m + m - 1))]) (n := H.length) tpI (okB m k left) (L.flatMap (extC m)) lst_new (by rw [flatC_len]; omega) (fun b hb => ⟨tt_ok, by simp⟩)
  generalize (L.flatMap (extC m)).map tpI = M at *
  generalize ((L.flatMap (extC m)).filter (okB m k left)).map tpI = M2 at *
  generalize hA : (k : Int) * m - left * ((m : Int) - 1) = A at *
  generalize hB : (k : Int) * m + m - 1 = B at *
  have ms : newL M2 (H ++ [.lst M]) = .ok (.ref (H.length + 1)) (H ++ [.lst M, .lst M2]) := by simp [newL]
  rw [ms] at cf
  simp [SBd, s1, s2, s3, s4, hA, hB, c2, cf]
noncomputable def dnI (n : Nat) : List Int := (List.range n).map fun (i : Nat) => (n : Int) - 1 - i
theorem dn_rng : ∀ n : Nat, n < 21 → 1 ≤ n → (rng3 [.int ((n : Int) - 1), .int (-1), .int (-1)]).bind intsOf = some (dnI n) := by decide +kernel
theorem x_dn {n : Nat} {h : Hh} (h1 : 1 ≤ n) (hn : n ≤ 20) : rngI3 [.int ((n : Int) - 1), .int (-1), .int (-1)] h = .ok (.snap ((dnI n).map D.int)) h := by
  have q := dn_rng n (by omega) h1
  obtain ⟨xs, e1, e2⟩ := Option.bind_eq_some_iff.mp q
  rw [← intsOf_some e2]
  simp only [rngI3, e1]
theorem sb_loop {n m k : Nat} {h : Hh} (n1 : 1 ≤ n) (hn : n ≤ 8) (m1 : 1 ≤ m) (hm : m ≤ 20) (hk : k ≤ 8) (pl : m ^ n ≤ 900000) : ∃ r T y4 y5 y6 y7, forS (gN 4) SBd ((dnI n).map D.int) [some (.int n), some (.int m), some (.int k), some (.ref h.length), none, none, none, none] (h ++ [.lst [.tup []]]) = .ok (.nx [some (.int n), some (.int m), some (.int k), some (.ref r), y4, y5, y6, y7]) (h ++ T) ∧ h.length ≤ r ∧ lstOf (h ++ T) r = some ((dueC n m k).map tpI) := by
  obtain ⟨s, q, e⟩ := forS_ex (σ := Hh × Nat × Option D × Option D × Option D × Option D) (tg := gN 4) (body := SBd) (fun (i : Nat) => D.int ((n : Int) - 1 - i)) n (fun s => [some (.int n), some (.int m), some (.int k), some (.ref s.2.1), s.2.2.1, s.2.2.2.1, s.2.2.2.2.1, s.2.2.2.2.2]) (fun s => s.1) (fun i s => lstOf s.1 s.2.1 = some ((prgL n m k i).map tpI) ∧ h.length ≤ s.2.1 ∧ ∃ T, s.1 = h ++ T) (fun i s hi hs => by
    obtain ⟨H, r, y4, y5, y6, y7⟩ := s
    obtain ⟨er, hr, T, hT⟩ := hs
    dsimp only at er hr hT ⊢
    have le : (n : Int) - 1 - (i : Int) = ((n - 1 - i : Nat) : Int) := by omega
    have pm : m ^ (i + 1) ≤ m ^ n := Nat.pow_le_pow_right m1 (by omega)
    have pb := Nat.mul_le_mul_right m (prg_len (n := n) (m := m) (k := k) i hi)
    have e2 : m ^ i * m = m ^ (i + 1) := (Nat.pow_succ ..).symm
    have b := sb_ok (n := n) (m := m) (k := k) (left := n - 1 - i) (r := r) (L := prgL n m k i) (H := H) (y5 := y5) (y6 := y6) (y7 := y7) hm hk (by omega) er (fun b hb => by have := (prg_in (n := n) (m := m) (k := k) i (by omega) b hb).1; omega) (by omega)
    refine ⟨(H ++ [.lst (((prgL n m k i).flatMap (extC m)).map tpI), .lst ((((prgL n m k i).flatMap (extC m)).filter (okB m k (n - 1 - i))).map tpI)], H.length + 1, some (.int ((n - 1 - i : Nat) : Int)), some (.int ((k : Int) * m - ((n - 1 - i : Nat) : Int) * ((m : Int) - 1))), some (.int ((k : Int) * m + m - 1)), some (.ref H.length)), ⟨?_, ?_, ?_⟩, ?_⟩
    rotate_left 3
    · rw [le]
      simp only [e_gN, bind_ok, List.set]
      exact b
    · dsimp only
      rw [show prgL n m k (i + 1) = ((prgL n m k i).flatMap (extC m)).filter (okB m k (n - 1 - i)) from rfl]
      exact lst_new1
    · dsimp only
      rw [hT, List.length_append]; omega
    · exact ⟨_, by rw [hT, List.append_assoc]⟩) n 0 (h ++ [.lst [.tup []]], h.length, none, none, none, none) (by omega) ⟨lst_new, Nat.le_refl _, _, rfl⟩
  obtain ⟨H, r, y4, y5, y6, y7⟩ := s
  obtain ⟨er, hr, T, hT⟩ := e
  dsimp only at er hr hT q
  subst hT
  refine ⟨r, T, y4, y5, y6, y7, ?_, hr, ?_⟩
  · rw [← q, dnI, List.map_map, List.range_eq_range']; rfl
  · rw [← prg_due n1 m1]; exact er
end FC
namespace FC
open PySem L2 L2.FE
theorem ers_eq : er_slab_all = fun ds h => ((cFun 8 (cSeq (cExpr (cCall e_slab_needed (cCons (up (cVar 0)) (cCons (up (cVar 1)) (cCons (up (cVar 2)) cNil)))))
    (cSeq (cExpr (cCall e_told_needed (cCons (up (cCall m_slab_count (cCons (cVar 0) (cCons (cVar 1) (cCons (cVar 2) cNil))))) cNil)))
    (cSeq (up (cSet 3 (cCall (dLst newL) (cCons (cCall dTup cNil) cNil))))
    (cSeq (up (cFor (cRng rngI3 (cCons (cBin dSub (cVar 0) (cC (.int 1))) (cCons (cUn dNeg (cC (.int 1))) (cCons (cUn dNeg (cC (.int 1))) cNil)))) (gN 4) SBd))
    (up (cRet (cVar 3)))))))) ds h).bind (exitR h) := rfl
theorem e_needed {i a b : Int} {h : Hh} (hi : a ≤ i ∧ i ≤ b) : e_number_needed [.int i, .int a, .int b] h = .ok .non h := by
  simp [e_number_needed, e_fun, hi]
theorem exR {h T : Hh} {r : Nat} {L : List (List Int)} (w : Wf h) (hr : h.length ≤ r) (e : lstOf (h ++ T) r = some (L.map tpI)) : exitR h (.ref r) (h ++ T) = .ok (.ref h.length) (h ++ [.lst (L.map tpI)]) := by
  have dp := all_deep 6 L
  unfold exitR
  rw [List.take_left' rfl, if_pos (show h.all (lowO h.length) = true from w)]
  dsimp only
  rw [if_pos hr, e]
  dsimp only
  rw [List.all_eq_true] at dp
  rw [mapO_id fun d hd => frzD_deep 8 d (dp d hd)]
theorem x_ers {n m k : Nat} {h : Hh} (w : Wf h) (n1 : 1 ≤ n) (hn : n ≤ 8) (m1 : 1 ≤ m) (hm : m ≤ 20) (hk : k ≤ 8) (pl : m ^ n ≤ 900000) (c : slabI n m k ≤ 300) : er_slab_all [.int n, .int m, .int k] h = .ok (.ref h.length) (h ++ [.lst ((dueC n m k).map tpI)]) := by
  obtain ⟨r, T, y4, y5, y6, y7, q, hr, er⟩ := sb_loop (h := h) n1 hn m1 hm hk pl
  have ex := exR w hr er
  have sc := x_scount (h := h) n1 hn m1 hm hk
  have a1 := e_needed (i := (n : Int)) (a := 1) (b := 8) (h := h) (by omega)
  have a2 := e_needed (i := (m : Int)) (a := 1) (b := 20) (h := h) (by omega)
  have a3 := e_needed (i := (k : Int)) (a := 0) (b := 8) (h := h) (by omega)
  have dn := x_dn (n := n) (h := h ++ [.lst [.tup []]]) n1 (by omega)
  have cr : ∀ (a : MA) (env : En) (h : Hh), cRng rngI3 a env h = (a env h).bind rngI3 := fun _ _ _ => rfl
  have c' : ¬ 300 < slabI n m k := by omega
  rw [ers_eq]
  generalize slabI n m k = V at *
  generalize (dueC n m k).map tpI = DU at *
  generalize (dnI n).map D.int = DN at *
  simp [e_slab_needed, e_told_needed, e_fun, a1, a2, a3, sc, c', cr, dn, q, ex]
theorem x_erE {n m k : Nat} {h : Hh} (n1 : 1 ≤ n) (hn : n ≤ 8) (m1 : 1 ≤ m) (hm : m ≤ 20) (hk : k ≤ 8) (c : 300 < slabI n m k) : er_slab_all [.int n, .int m, .int k] h = .err ⟨"TooGreat", [("many", slabI n m k), ("most", 300)]⟩ h ∧ e_slab_all [.int n, .int m, .int k] h = .err ⟨"TooGreat", [("many", slabI n m k), ("most", 300)]⟩ h := by
  have sc := x_scount (h := h) n1 hn m1 hm hk
  have a1 := e_needed (i := (n : Int)) (a := 1) (b := 8) (h := h) (by omega)
  have a2 := e_needed (i := (m : Int)) (a := 1) (b := 20) (h := h) (by omega)
  have a3 := e_needed (i := (k : Int)) (a := 0) (b := 8) (h := h) (by omega)
  generalize slabI n m k = V at *
  have ri : cRaiseI "TooGreat" ["many", "most"] (cCons (up (cVar 0)) (cCons (up (cC (.int 300))) cNil)) [some (.int V)] h = .err ⟨"TooGreat", [("many", V), ("most", 300)]⟩ h := by kernel_rfl
  exact ⟨by simp [er_slab_all, e_slab_needed, e_told_needed, e_fun, a1, a2, a3, sc, c, ri], by simp [e_slab_all, e_slab_needed, e_told_needed, e_fun, a1, a2, a3, sc, c, ri]⟩
noncomputable abbrev TGr (V : Int) : D := .tup [.str "great", .int V, .int 300]
theorem refG {h : Hh} {V : Int} : m__law_refused [.exc "TooGreat" [("many", V), ("most", 300)]] h = .ok (TGr V) h := by kernel_rfl
theorem exQ {d : D} {h t : Hh} (w : Wf h) (nr : ∀ n, d ≠ .ref n) (e : deep 8 d = true) : exitQ h d (h ++ t) = .ok d h := by
  have := exitF_deep (t := t) w e
  cases d <;> first | exact this | exact absurd rfl (nr _)
theorem rt_eq : r__law_told = fun ds h => ((cFun 4 (cTry (cRet (cCall er_slab_all (cCons (up (cVar 0)) (cCons (up (cVar 1)) (cCons (up (cVar 2)) cNil))))) m__law_refused)) ds h).bind (exitQ h) := rfl
theorem x_mtold {n m k : Nat} {h : Hh} (w : Wf h) (n1 : 1 ≤ n) (hn : n ≤ 8) (m1 : 1 ≤ m) (hm : m ≤ 20) (hk : k ≤ 8) (c : 300 < slabI n m k) : m__law_told [.int n, .int m, .int k] h = .ok (TGr (slabI n m k)) h := by
  have er := (x_erE (h := h) n1 hn m1 hm hk c).2
  have tb : (cRet (cCall e_slab_all (cCons (up (cVar 0)) (cCons (up (cVar 1)) (cCons (up (cVar 2)) cNil))))) [some (.int n), some (.int m), some (.int k), none] h = .err ⟨"TooGreat", [("many", slabI n m k), ("most", 300)]⟩ h := by simp [er]
  have q := e_tryE (mr := m__law_refused) w tb (show clsNames.contains "TooGreat" = true by decide) refG
  simp [m__law_told, e_fun, q]
theorem x_rtoldE {n m k : Nat} {h : Hh} (w : Wf h) (n1 : 1 ≤ n) (hn : n ≤ 8) (m1 : 1 ≤ m) (hm : m ≤ 20) (hk : k ≤ 8) (c : 300 < slabI n m k) : r__law_told [.int n, .int m, .int k] h = .ok (TGr (slabI n m k)) h := by
  have er := (x_erE (h := h) n1 hn m1 hm hk c).1
  have tb : (cRet (cCall er_slab_all (cCons (up (cVar 0)) (cCons (up (cVar 1)) (cCons (up (cVar 2)) cNil))))) [some (.int n), some (.int m), some (.int k), none] h = .err ⟨"TooGreat", [("many", slabI n m k), ("most", 300)]⟩ h := by simp [er]
  have q := e_tryE (mr := m__law_refused) w tb (show clsNames.contains "TooGreat" = true by decide) refG
  have tup : exitQ h (TGr (slabI n m k)) h = .ok (TGr (slabI n m k)) h := by have := exQ (t := []) (d := TGr (slabI n m k)) w (fun _ e => nomatch e) rfl; simpa using this
  rw [rt_eq]
  simp [e_fun, q, tup]
theorem x_rtold {n m k : Nat} {h : Hh} (w : Wf h) (n1 : 1 ≤ n) (hn : n ≤ 8) (m1 : 1 ≤ m) (hm : m ≤ 20) (hk : k ≤ 8) (pl : m ^ n ≤ 900000) (c : slabI n m k ≤ 300) : r__law_told [.int n, .int m, .int k] h = .ok (.ref h.length) (h ++ [.lst ((dueC n m k).map tpI)]) := by
  have er := x_ers w n1 hn m1 hm hk pl c
  generalize hD : (dueC n m k).map tpI = DU at *
  have tb : (cRet (cCall er_slab_all (cCons (up (cVar 0)) (cCons (up (cVar 1)) (cCons (up (cVar 2)) cNil))))) [some (.int n), some (.int m), some (.int k), none] h = .ok (.rt (.ref h.length)) (h ++ [.lst DU]) := by simp [er]
  have q := e_tryO (mr := m__law_refused) tb
  have ex : exitQ h (.ref h.length) (h ++ [.lst DU]) = .ok (.ref h.length) (h ++ [.lst DU]) := by
    rw [← hD]
    exact exR (T := [.lst ((dueC n m k).map tpI)]) w (Nat.le_refl _) lst_new
  rw [rt_eq]
  simp [e_fun, q, ex]
end FC
namespace FC
open PySem L2 L2.FE
noncomputable def sumsN (m : Nat) : Nat → List Nat
  | 0 => [0]
  | k + 1 => (sumsN m k).flatMap fun s => (List.range m).map fun i => s + i
theorem flat_comp {A B C : Type} (g : A → B) (F : B → List C) : ∀ l : List A, l.flatMap (F ∘ g) = (l.map g).flatMap F
  | [] => rfl
  | a :: l => by rw [List.flatMap_cons, List.map_cons, List.flatMap_cons, flat_comp g F l]; rfl
theorem sums_eq (m : Nat) : ∀ k, (cellsL m k).map List.sum = (sumsN m k).map fun (s : Nat) => (s : Int)
  | 0 => rfl
  | k + 1 => by
    rw [cellsL, sumsN, List.map_flatMap, List.map_flatMap]
    have e1 : (fun b : List Int => (extC m b).map List.sum) = (fun s : Int => (List.range m).map fun (i : Nat) => s + (i : Int)) ∘ List.sum := by
      funext b
      simp only [extC, List.map_map, Function.comp]
      refine List.map_congr_left fun i _ => ?_
      simp [Function.comp]
    have e2 : (fun s : Nat => ((List.range m).map fun i => s + i).map fun (s : Nat) => (s : Int)) = (fun s : Int => (List.range m).map fun (i : Nat) => s + (i : Int)) ∘ fun (s : Nat) => (s : Int) := by
      funext s
      simp only [List.map_map, Function.comp]
      refine List.map_congr_left fun i _ => ?_
      simp
    rw [e1, e2, flat_comp, flat_comp, sums_eq m k]
noncomputable def cntN (n m k : Nat) : Nat := (sumsN m n).countP fun s => s / m == k
theorem due_cnt (n m k : Nat) : (dueC n m k).length = cntN n m k := by
  unfold dueC cntN
  rw [← List.countP_eq_length_filter]
  have e : (cellsL m n).countP (fun b => b.sum / (m : Int) == (k : Int)) = ((cellsL m n).map List.sum).countP fun s => s / (m : Int) == (k : Int) := by
    rw [List.countP_map]; rfl
  rw [e, sums_eq, List.countP_map]
  refine List.countP_congr fun s _ => ?_
  simp only [Function.comp, beq_iff_eq]
  rw [← Int.natCast_ediv]
  omega
theorem ck_82 : ∀ k, k < 9 → (cntN 8 2 k : Int) = slabI 8 2 k := by decide +kernel
theorem ck_83 : ∀ k, k < 9 → (cntN 8 3 k : Int) = slabI 8 3 k := by decide +kernel
theorem ck_55 : ∀ k, k < 6 → (cntN 5 5 k : Int) = slabI 5 5 k := by decide +kernel
theorem ck_48 : ∀ k, k < 5 → (cntN 4 8 k : Int) = slabI 4 8 k := by decide +kernel
theorem ck_315 : ∀ k, k < 4 → (cntN 3 15 k : Int) = slabI 3 15 k := by decide +kernel
theorem ck_220 : ∀ k, k < 3 → (cntN 2 20 k : Int) = slabI 2 20 k := by decide +kernel
theorem ck_120 : ∀ k, k < 2 → (cntN 1 20 k : Int) = slabI 1 20 k := by decide +kernel
theorem ck_64 : ∀ k, k < 7 → (cntN 6 4 k : Int) = slabI 6 4 k := by decide +kernel
noncomputable def prs : List (Nat × Nat) := [(8, 2), (8, 3), (5, 5), (4, 8), (3, 15), (2, 20), (1, 20), (6, 4)]
noncomputable def prD (p : Nat × Nat) : D := .tup [.int p.1, .int p.2]
theorem prs_all : ∀ p ∈ prs, 1 ≤ p.1 ∧ p.1 ≤ 8 ∧ 1 ≤ p.2 ∧ p.2 ≤ 20 ∧ p.2 ^ p.1 ≤ 900000 := by decide +kernel
theorem prs_cnt : ∀ p ∈ prs, ∀ k, k < p.1 + 1 → ((dueC p.1 p.2 k).length : Int) = slabI p.1 p.2 k := by
  intro p hp k hk
  rw [due_cnt]
  simp only [prs, List.mem_cons, List.not_mem_nil, or_false] at hp
  rcases hp with rfl | rfl | rfl | rfl | rfl | rfl | rfl | rfl
  · exact ck_82 k hk
  · exact ck_83 k hk
  · exact ck_55 k hk
  · exact ck_48 k hk
  · exact ck_315 k hk
  · exact ck_220 k hk
  · exact ck_120 k hk
  · exact ck_64 k hk
end FC
namespace FC
open PySem L2 L2.FE
noncomputable def TB : MS := (cSeq (cSet 11 (cCall r__law_told (cCons (cVar 5) (cCons (cVar 6) (cCons (cVar 7) cNil)))))
    (cSeq (cIfS (cTest asB (cBin dNe (cCall dReprY (cCons (cVar 11) cNil)) (cCall dReprY (cCons (cVar 9) cNil)))) (cRet (cC (.bl false))) cSkip)
    (cIfS (cTest dTru (cUn (dIsI "list") (cVar 11))) (cExpr (cMethL dAppend (cVar 11) (cCons (cCall dTup cNil) cNil))) cSkip)))
noncomputable def TTd : MT := (cTest asB (cBin dEq (cBin dDiv (cCall dSum (cCons (cVar 0) cNil)) (cVar 1)) (cVar 2)))
noncomputable def ZB : MS := (cSeq (cUn2 5 6 (cBin dIx (cCall (dLst frzL) (cCons (cCall dTup (cCons (cC (.int 8)) (cCons (cC (.int 2)) cNil))) (cCons (cCall dTup (cCons (cC (.int 8)) (cCons (cC (.int 3)) cNil))) (cCons (cCall dTup (cCons (cC (.int 5)) (cCons (cC (.int 5)) cNil))) (cCons (cCall dTup (cCons (cC (.int 4)) (cCons (cC (.int 8)) cNil))) (cCons (cCall dTup (cCons (cC (.int 3)) (cCons (cC (.int 15)) cNil))) (cCons (cCall dTup (cCons (cC (.int 2)) (cCons (cC (.int 20)) cNil))) (cCons (cCall dTup (cCons (cC (.int 1)) (cCons (cC (.int 20)) cNil))) (cCons (cCall dTup (cCons (cC (.int 6)) (cCons (cC (.int 4)) cNil))) cNil))))))))) (cCall m__law_draw (cCons (cVar 3) (cCons (cC (.int 8)) cNil)))))
    (cSeq (cSet 7 (cCall m__law_draw (cCons (cVar 3) (cCons (cBin (dAdd frzL) (cVar 5) (cC (.int 1))) cNil))))
    (cSeq (cSet 9 (cComp frzL (cSeqI (cCall m__law_cells (cCons (cVar 5) (cCons (cVar 6) cNil)))) [6, 7] TTd (cVar 0)))
    (cSeq (cIfS (cTest asB (cBin dNe (cCall dReprY (cCons (cCall m_slab_many (cCons (cVar 5) (cCons (cVar 6) (cCons (cVar 7) cNil)))) cNil)) (cCall dReprY (cCons (cCall dLen (cCons (cVar 9) cNil)) cNil)))) (cRet (cC (.bl false))) cSkip)
    (cSeq (cIfS (cTest asB (cBin dGt (cCall dLen (cCons (cVar 9) cNil)) (cC (.int 300)))) (cSet 9 (cCall dTup (cCons (cC (.str "great")) (cCons (cCall dLen (cCons (cVar 9) cNil)) (cCons (cC (.int 300)) cNil))))) cSkip)
    (cFor (cRng rng1 (cCons (cC (.int 2)) cNil)) (gN 10) TB))))))
noncomputable def B1 : MS := (cSeq (cSet 3 (cCall r__law_pen_of (cCons (cVar 2) cNil)))
    (cSeq (cUn3 4 5 6 (cCall dTup (cCons (cCall m__law_draw (cCons (cVar 3) (cCons (cC (.int 2)) cNil))) (cCons (cBin (dAdd frzL) (cC (.int 1)) (cCall m__law_draw (cCons (cVar 3) (cCons (cC (.int 8)) cNil)))) (cCons (cBin (dAdd frzL) (cC (.int 1)) (cCall m__law_draw (cCons (cVar 3) (cCons (cC (.int 20)) cNil)))) cNil)))))
    (cSeq (cSet 7 (cBin dIx (cCall (dLst frzL) (cCons (cCall m__law_draw (cCons (cVar 3) (cCons (cC (.int 9)) cNil))) (cCons (cCall m__law_draw (cCons (cVar 3) (cCons (cVar 5) cNil))) cNil))) (cVar 4)))
    (cSeq (cIfS (cTest asB (cBin dNe (cCall dReprY (cCons (cCall m_slab_many (cCons (cVar 5) (cCons (cVar 6) (cCons (cVar 7) cNil)))) cNil)) (cCall dReprY (cCons (cCall m__law_many (cCons (cVar 5) (cCons (cVar 6) (cCons (cVar 7) cNil)))) cNil)))) (cRet (cC (.bl false))) cSkip)
    (cSeq (cSet 8 (cCall m__law_many (cCons (cVar 5) (cCons (cVar 6) (cCons (cVar 7) cNil)))))
    (cSeq (cIfS (cAndT (cTest asB (cBin dGt (cVar 8) (cC (.int 300)))) (cTest asB (cBin dNe (cCall m__law_told (cCons (cVar 5) (cCons (cVar 6) (cCons (cVar 7) cNil)))) (cCall dTup (cCons (cC (.str "great")) (cCons (cVar 8) (cCons (cC (.int 300)) cNil))))))) (cRet (cC (.bl false))) cSkip)
    (cIfS (cTest asB (cBin dEq (cVar 1) (cC (.int 0)))) ZB cSkip)))))))
theorem m_law_eq : m_law = fun ds h => ((cFun 12 (cSeq (cFor (cEnumI (cBin (dAdd frzL) (cCall (dLst frzL) (cCons (cCall m__law_cell_at (cCons (cVar 0) (cCons (cC (.int 0)) cNil))) cNil)) (cSlice frzL (cVar 0) (cPart (cC (.int 1))) (cPart (cC (.int 5)))))) (gT2 1 2) B1)
    (cRet (cC (.bl true))))) ds h).bind (exitF h) := rfl
end FC
namespace FC
open PySem L2 L2.FE
theorem toPys_tp {k : Nat} {h : Hh} : ∀ {L : List (List Int)}, (∀ b ∈ L, ∀ x ∈ b, sml x = true) → toPys (toPy (k + 2) h) (L.map tpI) = some (L.map fun b => PyData.tuple (b.map PyData.int))
  | [], _ => rfl
  | b :: L, hs => by
    have e1 : toPy (k + 2) h (tpI b) = some (.tuple (b.map PyData.int)) := by
      show (toPys (toPy (k + 1) h) (b.map D.int)).map PyData.tuple = _
      rw [toPys_ints (hs b List.mem_cons_self)]; rfl
    rw [List.map_cons, toPys, e1, toPys_tp fun x hx => hs x (List.mem_cons_of_mem _ hx)]
    rfl
theorem bulk_tp : ∀ {L : List (List Int)}, (∀ b ∈ L, b.length ≤ 8) → PyData.bulkAll (L.map fun b => PyData.tuple (b.map PyData.int)) ≤ 20 * L.length
  | [], _ => by simp [PyData.bulkAll]
  | b :: L, hs => by
    have := hs b List.mem_cons_self
    have := bulk_tp (L := L) fun x hx => hs x (List.mem_cons_of_mem _ hx)
    rw [List.map_cons, PyData.bulkAll, PyData.bulk, bulk_ints, List.length_cons]; omega
theorem x_rep2 {h h' : Hh} {n : Nat} {L : List (List Int)} (e : lstOf h n = some (L.map tpI)) (hs : ∀ b ∈ L, ∀ x ∈ b, sml x = true) (hb : ∀ b ∈ L, b.length ≤ 8) (hl : L.length ≤ 300) : ∃ s, dReprY [.ref n] h = .ok (.str s) h ∧ dReprY [.frl (L.map tpI)] h' = .ok (.str s) h' := by
  have bk : PyData.bulk (.list (L.map fun b => PyData.tuple (b.map PyData.int))) ≤ 8000 := by rw [PyData.bulk]; have := bulk_tp hb; omega
  have e1 : toPy 12 h (.ref n) = some (.list (L.map fun b => PyData.tuple (b.map PyData.int))) := by
    show (match lstOf h n with | some ds => (toPys (toPy (9 + 2) h) ds).map PyData.list | none => none) = _
    rw [e]
    show (toPys (toPy (9 + 2) h) (L.map tpI)).map PyData.list = _
    rw [toPys_tp hs]; rfl
  have e2 : toPy 12 h' (.frl (L.map tpI)) = some (.list (L.map fun b => PyData.tuple (b.map PyData.int))) := by
    show (toPys (toPy (9 + 2) h') (L.map tpI)).map PyData.list = _
    rw [toPys_tp hs]; rfl
  refine ⟨PyData.shown (.list (L.map fun b => PyData.tuple (b.map PyData.int))), reprY_of (reprX_of ?_), reprY_of (reprX_of ?_)⟩
  · show repD (.ref n) h = _
    delta repD; rw [e1]; exact if_pos bk
  · show repD (.frl (L.map tpI)) h' = _
    delta repD; rw [e2]; exact if_pos bk
theorem x_repG {h : Hh} {V : Int} (sV : sml V = true) : ∃ s, dReprY [TGr V] h = .ok (.str s) h := by
  have e1 : toPy 11 h (.str "great") = some (.str "great") := by kernel_rfl
  have e2 : toPy 11 h (.int V) = some (.int V) := by show (if sml V = true then some (PyData.int V) else none) = _; rw [if_pos sV]
  have e3 : toPy 11 h (.int 300) = some (.int 300) := by kernel_rfl
  have e4 : toPy 12 h (TGr V) = some (.tuple [.str "great", .int V, .int 300]) := by
    show (toPys (toPy 11 h) [.str "great", .int V, .int 300]).map PyData.tuple = _
    simp only [toPys, e1, e2, e3]; rfl
  have bk : PyData.bulk (.tuple [.str "great", .int V, .int 300]) ≤ 8000 := by
    simp only [PyData.bulk, PyData.bulkAll]; decide
  refine ⟨PyData.shown (.tuple [.str "great", .int V, .int 300]), reprY_of (reprX_of ?_)⟩
  show repD (TGr V) h = _
  delta repD; rw [e4]; exact if_pos bk
theorem x_repI {h : Hh} {V : Int} (sV : sml V = true) : dReprY [.int V] h = .ok (.str (toString V)) h := reprY_of (reprX_of (if_pos sV))
theorem neG {h : Hh} {V : Int} : dNe (TGr V) (TGr V) h = .ok (.bl false) h := by
  have e1 : eqD 11 h (.str "great") (.str "great") = some true := by kernel_rfl
  have e2 : eqD 11 h (.int V) (.int V) = some (V == V) := rfl
  have e3 : eqD 11 h (.int 300) (.int 300) = some true := by kernel_rfl
  have e : eqD eqN h (TGr V) (TGr V) = some true := by
    show eqL (eqD 11 h) [.str "great", .int V, .int 300] [.str "great", .int V, .int 300] = _
    simp [eqL, e1, e2, e3]
  simp only [dNe, e]; rfl
theorem a_isLR {h : Hh} {ds : List D} : dIsI "list" (.ref h.length) (h ++ [.lst ds]) = .ok (.bl true) (h ++ [.lst ds]) := by
  have : (h ++ [O.lst ds])[h.length]? = some (.lst ds) := by simp
  simp only [dIsI, tyD, this]
  rfl
theorem many_sml : ∀ m, m < 20 → ∀ n, n < 8 → ∀ k, k < 9 → (manyI (n + 1) (m + 1) k).natAbs ≤ 10 ^ 30 := by decide +kernel
theorem slab_sml {n m k : Nat} (n1 : 1 ≤ n) (hn : n ≤ 8) (m1 : 1 ≤ m) (hm : m ≤ 20) (hk : k ≤ 8) : sml (slabI n m k) = true := by
  have := many_sml (m - 1) (by omega) (n - 1) (by omega) k (by omega)
  rw [show m - 1 + 1 = m by omega, show n - 1 + 1 = n by omega, ← slab_many_eq n1 hn m1 hm hk] at this
  exact sml_of (Nat.le_trans this (by decide +kernel))
theorem due_in {n m k : Nat} : ∀ b ∈ dueC n m k, b.length = n ∧ ∀ x ∈ b, 0 ≤ x ∧ x < m := fun b hb => cells_in m n b (List.mem_filter.mp hb).1
theorem tb_ok {n m k : Nat} {H : Hh} {d0 d1 d2 d3 d4 d8 y10 y11 : Option D} {d9 : D} (w : Wf H) (n1 : 1 ≤ n) (hn : n ≤ 8) (m1 : 1 ≤ m) (hm : m ≤ 20) (hk : k ≤ 8) (pl : m ^ n ≤ 900000) (pc : ((dueC n m k).length : Int) = slabI n m k) (c9 : d9 = if 300 < slabI n m k then TGr (slabI n m k) else .frl ((dueC n m k).map tpI)) :
    ∃ z11 H2, TB [d0, d1, d2, d3, d4, some (.int n), some (.int m), some (.int k), d8, some d9, y10, y11] H = .ok (.nx [d0, d1, d2, d3, d4, some (.int n), some (.int m), some (.int k), d8, some d9, y10, z11]) H2 ∧ Wf H2 := by
  by_cases c : 300 < slabI n m k
  · rw [if_pos c] at c9
    subst c9
    have t := x_rtoldE w n1 hn m1 hm hk c
    obtain ⟨s, r⟩ := x_repG (h := H) (slab_sml n1 hn m1 hm hk)
    refine ⟨some (TGr (slabI n m k)), H, ?_, w⟩
    generalize slabI n m k = V at *
    simp [TB, t, r]
  · rw [if_neg c] at c9
    subst c9
    have t := x_rtold w n1 hn m1 hm hk pl (by omega)
    obtain ⟨s, r1, r2⟩ := x_rep2 (h := H ++ [.lst ((dueC n m k).map tpI)]) (h' := H ++ [.lst ((dueC n m k).map tpI)]) (n := H.length) (L := dueC n m k) lst_new (fun b hb x hx => by have := (due_in b hb).2 x hx; exact sml_small (by omega) (by omega)) (fun b hb => by have := (due_in b hb).1; omega) (by omega)
    have il := a_isLR (h := H) (ds := (dueC n m k).map tpI)
    have z : ((dueC n m k).map tpI).length < 1000000 := by rw [List.length_map]; omega
    have lo : lowDs (H.length + 1) ((dueC n m k).map tpI ++ [.tup []]) = true := lowDs_all fun d hd => by
      rcases List.mem_append.mp hd with hd | hd
      · obtain ⟨x, _, rfl⟩ := List.mem_map.mp hd; simp [tpI, lowD]
      · rw [List.mem_singleton] at hd; subst hd; rfl
    refine ⟨some (.ref H.length), H ++ [.lst ((dueC n m k).map tpI ++ [.tup []])], ?_, w.app (o := O.lst ((dueC n m k).map tpI ++ [.tup []])) (show lowO (H.length + 1) (O.lst ((dueC n m k).map tpI ++ [.tup []])) = true from lo)⟩
    generalize (dueC n m k).map tpI = DU at *
    simp [TB, t, r1, r2, il, z]
end FC
namespace FC
open PySem L2 L2.FE
theorem td_ok {b : List Int} {m k : Nat} {h : Hh} (m1 : 1 ≤ m) (hm : m ≤ 20) : TTd [some (tpI b), some (.int m), some (.int k)] h = .ok (b.sum / (m : Int) == (k : Int)) h := by
  have z : (0 : Int) < m := by omega
  have z2 : 0 < m := by omega
  have s : sml (m : Int) = true := sml_small (by omega) (by omega)
  simp [TTd, tpI, z, z2, s]
theorem turns {n m k : Nat} {H : Hh} {d0 d1 d2 d3 d4 d8 y10 y11 : Option D} {d9 : D} (w : Wf H) (n1 : 1 ≤ n) (hn : n ≤ 8) (m1 : 1 ≤ m) (hm : m ≤ 20) (hk : k ≤ 8) (pl : m ^ n ≤ 900000) (pc : ((dueC n m k).length : Int) = slabI n m k) (c9 : d9 = if 300 < slabI n m k then TGr (slabI n m k) else .frl ((dueC n m k).map tpI)) :
    ∃ z10 z11 H2, forS (gN 10) TB (intsD 0 2) [d0, d1, d2, d3, d4, some (.int n), some (.int m), some (.int k), d8, some d9, y10, y11] H = .ok (.nx [d0, d1, d2, d3, d4, some (.int n), some (.int m), some (.int k), d8, some d9, z10, z11]) H2 ∧ Wf H2 := by
  obtain ⟨v1, H1, q1, w1⟩ := tb_ok (d0 := d0) (d1 := d1) (d2 := d2) (d3 := d3) (d4 := d4) (d8 := d8) (y10 := some (.int 0)) (y11 := y11) w n1 hn m1 hm hk pl pc c9
  obtain ⟨v2, H2, q2, w2⟩ := tb_ok (d0 := d0) (d1 := d1) (d2 := d2) (d3 := d3) (d4 := d4) (d8 := d8) (y10 := some (.int 1)) (y11 := v1) w1 n1 hn m1 hm hk pl pc c9
  refine ⟨some (.int 1), v2, H2, ?_, w2⟩
  rw [show intsD 0 2 = [.int 0, .int 1] from rfl]
  simp only [for_cons, for_nil, e_gN, bind_ok, List.set, q1, q2, fk_nx]
theorem z_ok {h : Hh} {p : Pen} {d0 d1 d2 d4 d5 d6 d7 d8 y9 y10 y11 : Option D} (w : Wf h) : ∃ z5 z6 z7 z9 z10 z11 H2, ZB [d0, d1, d2, some (.ref h.length), d4, d5, d6, d7, d8, y9, y10, y11] (h ++ [.lst (penD p)]) = .ok (.nx [d0, d1, d2, some (.ref h.length), d4, z5, z6, z7, d8, z9, z10, z11]) H2 ∧ Wf H2 := by
  obtain ⟨a, ea, ha⟩ := drawI p 8 (by decide)
  have hk : a < prs.length := by show a < 8; omega
  obtain ⟨n1, hn, m1, hm, pl⟩ := prs_all prs[a] (List.getElem_mem hk)
  have pcs := prs_cnt prs[a] (List.getElem_mem hk)
  have ix : ∀ H : Hh, ixK (prs.map prD) (a : Int) H = .ok (prD prs[a]) H := fun H => ixK_nat rfl (by rw [List.getElem?_map, List.getElem?_eq_getElem hk]; rfl)
  have ix' : ∀ H : Hh, ixK [.tup [.int 8, .int 2], .tup [.int 8, .int 3], .tup [.int 5, .int 5], .tup [.int 4, .int 8], .tup [.int 3, .int 15], .tup [.int 2, .int 20], .tup [.int 1, .int 20], .tup [.int 6, .int 4]] (a : Int) H = .ok (prD prs[a]) H := ix
  generalize prs[a] = pr at *
  obtain ⟨n, m⟩ := pr
  dsimp only at n1 hn m1 hm pl pcs
  obtain ⟨k, ek, hkk⟩ := drawI (drawP p 8) ((n : Int) + 1) (by omega)
  have hk8 : k ≤ 8 := by omega
  have pc := pcs k (by omega)
  generalize hP : drawP (drawP p 8) ((n : Int) + 1) = P at *
  have ce := x_cells (h := h ++ [.lst (penD P)]) n1 hn m1 hm pl
  have cm := comp_map (h := h ++ [.lst (penD P)]) (tt := TTd) (te := cVar 0) (ee := fun d => [some d, some (.int m), some (.int k)]) tpI (fun b => b.sum / (m : Int) == (k : Int)) tpI (cellsL m n) (fun b _ => ⟨td_ok m1 hm, fun _ => by simp⟩)
  have cm : compS TTd (cVar 0) (fun d => [some d, some (.int m), some (.int k)]) ((cellsL m n).map tpI) (h ++ [.lst (penD P)]) = .ok ((dueC n m k).map tpI) (h ++ [.lst (penD P)]) := cm
  have sm := x_smany (h := h ++ [.lst (penD P)]) n1 hn m1 hm hk8
  have rp := x_repI (h := h ++ [.lst (penD P)]) (slab_sml n1 hn m1 hm hk8)
  obtain ⟨z10, z11, H2, q, w2⟩ := turns (d0 := d0) (d1 := d1) (d2 := d2) (d3 := some (.ref h.length)) (d4 := d4) (d8 := d8) (y10 := y10) (y11 := y11) (wf_pen w P) n1 hn m1 hm hk8 pl pc rfl
  refine ⟨some (.int n), some (.int m), some (.int k), some (if 300 < slabI n m k then TGr (slabI n m k) else .frl ((dueC n m k).map tpI)), z10, z11, H2, ?_, w2⟩
  have ll : (((dueC n m k).map tpI).length : Int) = slabI n m k := by rw [List.length_map]; exact pc
  have dn : 0 < (n : Int) + 1 ∧ (n : Int) + 1 ≤ 10 ^ 20 := by omega
  generalize (dueC n m k).map tpI = DU at *
  have cl : ((cellsL m n).map tpI).length ≤ 1000000 := by rw [List.length_map, cells_len]; omega
  generalize (cellsL m n).map tpI = CL at *
  generalize slabI n m k = V at *
  by_cases c : 300 < V
  · rw [if_pos c] at q ⊢
    simp [ZB, ea, ix', prD, x_draw0 dn, ek, hP, ce, cl, cm, sm, rp, ll, c, q]
  · rw [if_neg c] at q ⊢
    simp [ZB, ea, ix', prD, x_draw0 dn, ek, hP, ce, cl, cm, sm, rp, ll, c, q]
theorem step_ok (ns : List Int) (t : Nat) (c : Int) (y3 y4 y5 y6 y7 y8 y9 y10 y11 : Option D) (h : Hh) (w : Wf h) : ∃ z3 z4 z5 z6 z7 z8 z9 z10 z11 h2, B1 [some (.scr (ns.map D.int)), some (.int t), some (.int c), y3, y4, y5, y6, y7, y8, y9, y10, y11] h = .ok (.nx [some (.scr (ns.map D.int)), some (.int t), some (.int c), z3, z4, z5, z6, z7, z8, z9, z10, z11]) h2 ∧ Wf h2 := by
  obtain ⟨a, ea, ha⟩ := drawI (penOf c) 2 (by decide)
  obtain ⟨b, eb, hb⟩ := drawI (drawP (penOf c) 2) 8 (by decide)
  obtain ⟨g, eg, hg⟩ := drawI (drawP (drawP (penOf c) 2) 8) 20 (by decide)
  generalize hP : drawP (drawP (drawP (penOf c) 2) 8) 20 = P at *
  obtain ⟨k1, e1, l1⟩ := drawI P 9 (by decide)
  obtain ⟨k2, e2, l2⟩ := drawI (drawP P 9) (1 + (b : Int)) (by omega)
  generalize hP2 : drawP (drawP P 9) (1 + (b : Int)) = P2 at *
  obtain ⟨k, hk, ek⟩ : ∃ k : Nat, k ≤ 8 ∧ ∀ H : Hh, ixK [.int (k1 : Int), .int (k2 : Int)] (a : Int) H = .ok (.int (k : Int)) H := by
    have ht' : a = 0 ∨ a = 1 := by omega
    rcases ht' with rfl | rfl
    · exact ⟨k1, by omega, fun H => ixK_0⟩
    · exact ⟨k2, by omega, fun H => ixK_1⟩
  obtain ⟨n, hn⟩ : ∃ n : Nat, n = b + 1 := ⟨_, rfl⟩
  obtain ⟨m, hm⟩ : ∃ m : Nat, m = g + 1 := ⟨_, rfl⟩
  have en : 1 + (b : Int) = (n : Int) := by omega
  have em : 1 + (g : Int) = (m : Int) := by omega
  have n1 : 1 ≤ n := by omega
  have n8 : n ≤ 8 := by omega
  have m1 : 1 ≤ m := by omega
  have m20 : m ≤ 20 := by omega
  have dn : 0 < (n : Int) ∧ (n : Int) ≤ 10 ^ 20 := by omega
  have lm := x_many (h := h ++ [.lst (penD P2)]) (n := n) (m := m) (k := k) n8 m20 hk
  rw [← slab_many_eq n1 n8 m1 m20 hk] at lm
  have sm := x_smany (h := h ++ [.lst (penD P2)]) n1 n8 m1 m20 hk
  have rp := x_repI (h := h ++ [.lst (penD P2)]) (slab_sml n1 n8 m1 m20 hk)
  rw [en] at e2 hP2
  obtain ⟨z5, z6, z7, z9, z10, z11, H2, q, w2⟩ := z_ok (p := P2) (d0 := some (.scr (ns.map D.int))) (d1 := some (.int t)) (d2 := some (.int c)) (d4 := some (.int a)) (d5 := some (.int n)) (d6 := some (.int m)) (d7 := some (.int k)) (d8 := some (.int (slabI n m k))) (y9 := y9) (y10 := y10) (y11 := y11) w
  have mt := fun (z : 300 < slabI n m k) => x_mtold (wf_pen w P2) n1 n8 m1 m20 hk z
  generalize slabI n m k = V at *
  have ng := neG (h := h ++ [.lst (penD P2)]) (V := V)
  by_cases t0 : t = 0
  · subst t0
    simp only [Int.natCast_zero] at q
    refine ⟨some (.ref h.length), some (.int a), z5, z6, z7, some (.int V), z9, z10, z11, H2, ?_, w2⟩
    by_cases c3 : 300 < V
    · have mt := mt c3
      simp [B1, ea, eb, eg, hP, e1, en, em, x_draw0 dn, e2, hP2, ek, sm, lm, rp, c3, mt, ng, q]
    · simp [B1, ea, eb, eg, hP, e1, en, em, x_draw0 dn, e2, hP2, ek, sm, lm, rp, c3, q]
  · have t1 : ¬ (t : Int) = 0 := by omega
    refine ⟨some (.ref h.length), some (.int a), some (.int n), some (.int m), some (.int k), some (.int V), y9, y10, y11, h ++ [.lst (penD P2)], ?_, wf_pen w P2⟩
    by_cases c3 : 300 < V
    · have mt := mt c3
      simp [B1, ea, eb, eg, hP, e1, en, em, x_draw0 dn, e2, hP2, ek, sm, lm, rp, c3, mt, ng, t0, t1]
    · simp [B1, ea, eb, eg, hP, e1, en, em, x_draw0 dn, e2, hP2, ek, sm, lm, rp, c3, t0, t1]
theorem law_ok (ns : List Int) (hl : ns.length ≤ 63) : ∃ h, m_law [.scr (ns.map D.int)] [] = .ok (.bl true) h := by
  generalize hcs : (ns.headD 0) :: cutL ns (some 1) (some 5) = cs
  obtain ⟨s, q, e⟩ := forS_ex (σ := Hh × En) (tg := gT2 1 2) (body := B1) (fun (i : Nat) => D.tup [.int i, .int (gI cs i)]) cs.length (fun s => s.2) (fun s => s.1) (fun i s => (∃ y1 y2 y3 y4 y5 y6 y7 y8 y9 y10 y11, s.2 = [some (.scr (ns.map D.int)), y1, y2, y3, y4, y5, y6, y7, y8, y9, y10, y11]) ∧ Wf s.1) (fun i s hi hs => by
    obtain ⟨H, E⟩ := s
    obtain ⟨⟨y1, y2, y3, y4, y5, y6, y7, y8, y9, y10, y11, hE⟩, w⟩ := hs
    dsimp only at hE w ⊢
    subst hE
    obtain ⟨z3, z4, z5, z6, z7, z8, z9, z10, z11, h2, b, w2⟩ := step_ok ns i (gI cs i) y3 y4 y5 y6 y7 y8 y9 y10 y11 H w
    refine ⟨(h2, [some (.scr (ns.map D.int)), some (.int i), some (.int (gI cs i)), z3, z4, z5, z6, z7, z8, z9, z10, z11]), ⟨⟨_, _, _, _, _, _, _, _, _, _, _, rfl⟩, w2⟩, ?_⟩
    dsimp only
    simp [b]) cs.length 0 ([], [some (.scr (ns.map D.int)), none, none, none, none, none, none, none, none, none, none, none]) (by omega) ⟨⟨_, _, _, _, _, _, _, _, _, _, _, rfl⟩, Wf.nil⟩
  obtain ⟨h2, E⟩ := s
  dsimp only at q
  have cl := cutL_le ns (some 1) (some 5)
  have c1 : 1 + (cutL ns (some 1) (some 5)).length ≤ 1000000 := by omega
  have ex : exitF [] (.bl true) h2 = .ok (.bl true) [] := by
    have := exitF_deep (h := []) (t := h2) (d := .bl true) Wf.nil rfl
    simpa using this
  refine ⟨[], ?_⟩
  rw [← List.range_eq_range', ← enum_ints, ← hcs] at q
  have q2 : forS (gT2 1 2) B1 (enumD (D.int (ns.headD 0) :: (cutL ns (some 1) (some 5)).map D.int)) [some (.scr (ns.map D.int)), none, none, none, none, none, none, none, none, none, none, none] [] = .ok (.nx E) h2 := q
  rw [m_law_eq]
  simp [e_fun, cut_cells, c1, q2, ex, -List.headD_eq_head?_getD]
end FC
open PySem PySem.W PyProof.Rows
local macro_rules | `(tactic| o_head $H) => `(tactic| (refine holds_open (q := FC.Q) (loose := []) (Xt := (fun s => xlAt FC.Q [] s && recOk (RowW.records (OpenRow.toRowW (OpenLaw.row PySem.Challenge.rw_fallcounts_k52_slabs_counted))) s)) (XP := XL FC.Q []) (Yf := Hook.obs $H) (Ya := Hook.val $H) (YP := Hook.says $H) (N := 4970) (L2.FE.left_fast (by decide) (by kernel_rfl) (fun _ => by kernel_rfl) FC.look1 FC.look2 (fun w os => by kernel_rfl)) (Hook.of $H) (Hook.keeps $H) (fun s e => xl_of s (Bool.and_eq_true_iff.mp e).1) XL.keeps (by rfl) (by rfl) (by rfl) (fun s e => recFacts_of (Bool.and_eq_true_iff.mp e).2) (by rfl) (by first | assumption | decide +kernel) (by decide +kernel) ⟨rfl, rfl, rfl, rfl, rfl, by decide +kernel⟩ ?hw ?hc))
set_option maxRecDepth 100000 in
set_option maxHeartbeats 0 in
theorem PySem.Challenge.cw_fallcounts_k52_slabs_counted_holds : PySem.Challenge.rw_fallcounts_k52_slabs_counted.Holds := by
  w_on; o_law; k_head; w_witness2
  k_fill
  refine FC.walk (l := PySem.Challenge.rw_fallcounts_k52_slabs_counted) rfl rfl (fun w h Y => by first | exact PySem.W.kIn_of Y | exact PySem.W.km_in_of Y) FC.law_ok ?F
  case F =>
    intro w mg fa h KX G hmg
    have T : FC.Text (L2.KOf KX) := by
      dsimp only [L2.KOf]
      refine' ⟨?d__law_cell_at, ?d__law_pen_of, ?d__law_next, ?d__law_draw, ?d_is_whole, ?d_is_within, ?d_number_needed, ?d_slab_needed, ?d_slab_count, ?d_slab_many, ?d__law_picked, ?d__law_below, ?d__law_many, ?d__law_kind_of, ?d__law_refused, ?d_told_needed, ?d_slab_all, ?d__law_told, ?d__law_cells, ?d_law, ?cls, ?ci_NoText, ?ci_TooGreat, ?z_ValueError, ?z_bool, ?z_enumerate, ?z_int, ?z_isinstance, ?z_len, ?z_list, ?z_max, ?z_range, ?z_repr, ?z_sum, ?y_MOST_LONG, ?y_MOST_TOLD, ?y_MOST_WIDE⟩
      (case d__law_cell_at => refine' L2.FE.def_mk ?a ?l ?c ?k; (case a => k_is); (case l => k_is); (case c => k_is); (case k => k_is))
      (case d__law_pen_of => refine' L2.FE.def_mk ?a ?l ?c ?k; (case a => k_is); (case l => k_is); (case c => k_is); (case k => k_is))
      (case d__law_next => refine' L2.FE.def_mk ?a ?l ?c ?k; (case a => k_is); (case l => k_is); (case c => k_is); (case k => k_is))
      (case d__law_draw => refine' L2.FE.def_mk ?a ?l ?c ?k; (case a => k_is); (case l => k_is); (case c => k_is); (case k => k_is))
      (case d_is_whole => refine' L2.FE.def_mk ?a ?l ?c ?k; (case a => k_is); (case l => k_is); (case c => k_is); (case k => k_is))
      (case d_is_within => refine' L2.FE.def_mk ?a ?l ?c ?k; (case a => k_is); (case l => k_is); (case c => k_is); (case k => k_is))
      (case d_number_needed => refine' L2.FE.def_mk ?a ?l ?c ?k; (case a => k_is); (case l => k_is); (case c => k_is); (case k => k_is))
      (case d_slab_needed => refine' L2.FE.def_mk ?a ?l ?c ?k; (case a => k_is); (case l => k_is); (case c => k_is); (case k => k_is))
      (case d_slab_count => refine' L2.FE.def_mk ?a ?l ?c ?k; (case a => k_is); (case l => k_is); (case c => k_is); (case k => k_is))
      (case d_slab_many => refine' L2.FE.def_mk ?a ?l ?c ?k; (case a => k_is); (case l => k_is); (case c => k_is); (case k => k_is))
      (case d__law_picked => refine' L2.FE.def_mk ?a ?l ?c ?k; (case a => k_is); (case l => k_is); (case c => k_is); (case k => k_is))
      (case d__law_below => refine' L2.FE.def_mk ?a ?l ?c ?k; (case a => k_is); (case l => k_is); (case c => k_is); (case k => k_is))
      (case d__law_many => refine' L2.FE.def_mk ?a ?l ?c ?k; (case a => k_is); (case l => k_is); (case c => k_is); (case k => k_is))
      (case d__law_kind_of => refine' L2.FE.def_mk ?a ?l ?c ?k; (case a => k_is); (case l => k_is); (case c => k_is); (case k => k_is))
      (case d__law_refused => refine' L2.FE.def_mk ?a ?l ?c ?k; (case a => k_is); (case l => k_is); (case c => k_is); (case k => k_is))
      (case d_told_needed => refine' L2.FE.def_mk ?a ?l ?c ?k; (case a => k_is); (case l => k_is); (case c => k_is); (case k => k_is))
      (case d_slab_all => refine' L2.FE.def_mk ?a ?l ?c ?k; (case a => k_is); (case l => k_is); (case c => k_is); (case k => k_is))
      (case d__law_told => refine' L2.FE.def_mk ?a ?l ?c ?k; (case a => k_is); (case l => k_is); (case c => k_is); (case k => k_is))
      (case d__law_cells => refine' L2.FE.def_mk ?a ?l ?c ?k; (case a => k_is); (case l => k_is); (case c => k_is); (case k => k_is))
      (case d_law => refine' L2.FE.def_mk ?a ?l ?c ?k; (case a => k_is); (case l => k_is); (case c => k_is); (case k => k_is))
      (case cls => refine' L2.cls_mk ?e0 ?e1 ?e2 ?e3 ?e4 ?e5 ?e6 ?e7 ?c; (case e0 => k_is); (case e1 => k_is); (case e2 => k_is); (case e3 => k_is); (case e4 => k_is); (case e5 => k_is); (case e6 => k_is); (case e7 => k_is); (case c => kernel_rfl))
      (case ci_NoText => refine' L2.cis_mk2 ?a ?b ?l ?c ?k ?o FC.isc_NoText FC.iloc_NoText FC.ibd_NoText FC.ibi_NoText (by decide); (case a => k_is); (case b => k_is); (case l => k_is); (case c => k_is); (case k => k_is); (case o => kernel_rfl))
      (case ci_TooGreat => refine' L2.cis_mk2 ?a ?b ?l ?c ?k ?o FC.isc_TooGreat FC.iloc_TooGreat FC.ibd_TooGreat FC.ibi_TooGreat (by decide); (case a => k_is); (case b => k_is); (case l => k_is); (case c => k_is); (case k => k_is); (case o => kernel_rfl))
      (case z_ValueError => k_is)
      (case z_bool => k_is)
      (case z_enumerate => k_is)
      (case z_int => k_is)
      (case z_isinstance => k_is)
      (case z_len => k_is)
      (case z_list => k_is)
      (case z_max => k_is)
      (case z_range => k_is)
      (case z_repr => k_is)
      (case z_sum => k_is)
      (case y_MOST_LONG => exact ⟨_, rfl⟩)
      (case y_MOST_TOLD => exact ⟨_, rfl⟩)
      (case y_MOST_WIDE => exact ⟨_, rfl⟩)
    exact FC.all_mk KX G hmg T
